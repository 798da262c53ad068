/-
  AggNew of the program and of the model; marks in an Agg of nothing.
-/
import Derived.Test.YthchmdmncmioiaaGreatDoorZPA
import Derived.Test.YthchmdmncmioiaaGreatDoorZCI
set_option maxHeartbeats 8000000
namespace Go.Proofs.YthchmdmncmioiaaGreatDoor
set_option linter.unusedVariables false
set_option linter.unusedSimpArgs false
open Go.ChangeShapes Go.WideShapes Go.ChangeAt Go.RowKit Go.PlainAid Go.Lib
set_option maxRecDepth 10000
def QaR (k:Int):Ag:=if 1<=k/\k<=4 then ⟨k,0,0,0,0,if k=2 then -1 else 0,0,[],[],0,0,[],[]⟩ else ⟨0,0,0,0,0,0,0,[],[],0,0,[],[]⟩
def plNil:Pl:=⟨none,0,none,0,none,0,none,0⟩
abbrev Qfq (kd t:Int):Value:=.agg #[.int .i64 kd,.int .u64 0,.int .i64 0,.int .u64 0,.int .i64 0,.int .i64 t,.int .u64 0,.slice none 0 0,.slice none 0 0,.int .i64 0,.int .u64 0,.slice none 0 0,.slice none 0 0]
theorem Qdt (k:Int) (w:World):Calls Tryz.prog 77 #[.int .i64 k] w fun e w'=>e=.returned (.bool (decide (1<=k) && decide (k<=4)))/\w'=w:=by
  by_cases h1:1<=k <;> by_cases h2:k<=4 <;> (go_enter Tryz.func77,Tryz.ntmps77;go_wp2;go_ret;exact ⟨by simp [h1,h2],rfl⟩)
theorem Qe5 (n lo hi:Int) (w:World):Calls Tryz.prog 90 #[.int .i64 n,.int .i64 lo,.int .i64 hi] w fun e w'=>e=.returned (.bool (decide (lo<=n) && decide (n<=hi)))/\w'=w:=by
  by_cases h1:lo<=n <;> by_cases h2:n<=hi <;> (go_enter Tryz.func90,Tryz.ntmps90;go_wp2;go_ret;exact ⟨by simp [h1,h2],rfl⟩)
theorem QlS (k:Int) (w:World):Calls Tryz.prog 83 #[.int .i64 k] w fun e w'=>e=.returned (Qfq (QaR k).k (QaR k).t)/\Below w.heap.size w w':=by
  by_cases h14:1<=k/\k<=4
  · have hb:(decide (1<=k) && decide (k<=4))=true:=by simp [h14.1,h14.2]
    by_cases h2:k=2
    · have HE:Hid ((QaR k).k=k/\(QaR k).t=-1):=by unfold QaR;rw [if_pos h14];exact ⟨rfl,by simp [h2]⟩
      have b2:(k == 2)=true:=by simp [h2]
      clear h14 h2;go_enter Tryz.func83,Tryz.ntmps83;go_wp2_with (go_at_call 77;refine (Qdt _ _).mono ?_;rintro e w1 ⟨rfl,hw⟩;subst hw;rw [hb]);exact bodyPost_ret (v:=Qfq k (-1)) (by simp [results,Tryz.results83,go_sem]) rfl ⟨by rw [HE.out.1,HE.out.2],((Below.refl _ _).alloc (Nat.le_refl _) _).alloc (by simp) _⟩
    · have HE:Hid ((QaR k).k=k/\(QaR k).t=0):=by unfold QaR;rw [if_pos h14];exact ⟨rfl,by simp [h2]⟩
      have b2:(k == 2)=false:=ZZf.2 h2;clear h14 h2;go_enter Tryz.func83,Tryz.ntmps83;go_wp2_with (go_at_call 77;refine (Qdt _ _).mono ?_;rintro e w1 ⟨rfl,hw⟩;subst hw;rw [hb]);exact bodyPost_ret (v:=Qfq k 0) (by simp [results,Tryz.results83,go_sem]) rfl ⟨by rw [HE.out.1,HE.out.2],((Below.refl _ _).alloc (Nat.le_refl _) _).alloc (by simp) _⟩
  · have hb:(decide (1<=k) && decide (k<=4))=false:=by
      rw [Bool.eq_false_iff];intro hh;simp at hh;exact h14 hh
    have HE:Hid ((QaR k).k=0/\(QaR k).t=0):=by unfold QaR;rw [if_neg h14];exact ⟨rfl,rfl⟩
    clear h14;go_enter Tryz.func83,Tryz.ntmps83;go_wp2_with (go_at_call 77;refine (Qdt _ _).mono ?_;rintro e w1 ⟨rfl,hw⟩;subst hw;rw [hb]);exact bodyPost_ret (v:=Qfq 0 0) (by simp [results,Tryz.results83,go_sem]) rfl ⟨by rw [HE.out.1,HE.out.2],(Below.refl _ _).alloc (Nat.le_refl _) _⟩
theorem QlO (k:Int) (w:World):Calls Tryz.prog 95 #[.int .i64 k] w fun e w'=>e=.returned (Qfq (QaR k).k (QaR k).t)/\Below w.heap.size w w':=by
  by_cases h14:1<=k/\k<=4
  · have hb:(decide (1<=k) && decide (k<=4))=true:=by simp [h14.1,h14.2]
    by_cases h2:k=2
    · have HE:Hid ((QaR k).k=k/\(QaR k).t=-1):=by unfold QaR;rw [if_pos h14];exact ⟨rfl,by simp [h2]⟩
      have b2:(k == 2)=true:=by simp [h2]
      clear h14 h2;go_enter Tryz.func95,Tryz.ntmps95;go_wp2_with (go_at_call 90;refine (Qe5 _ _ _ _).mono ?_;rintro e w1 ⟨rfl,hw⟩;subst hw;rw [hb]);exact bodyPost_ret (v:=Qfq k (-1)) (by simp [results,Tryz.results95,go_sem]) rfl ⟨by rw [HE.out.1,HE.out.2],((Below.refl _ _).alloc (Nat.le_refl _) _).alloc (by simp) _⟩
    · have HE:Hid ((QaR k).k=k/\(QaR k).t=0):=by unfold QaR;rw [if_pos h14];exact ⟨rfl,by simp [h2]⟩
      have b2:(k == 2)=false:=ZZf.2 h2;clear h14 h2;go_enter Tryz.func95,Tryz.ntmps95;go_wp2_with (go_at_call 90;refine (Qe5 _ _ _ _).mono ?_;rintro e w1 ⟨rfl,hw⟩;subst hw;rw [hb]);exact bodyPost_ret (v:=Qfq k 0) (by simp [results,Tryz.results95,go_sem]) rfl ⟨by rw [HE.out.1,HE.out.2],((Below.refl _ _).alloc (Nat.le_refl _) _).alloc (by simp) _⟩
  · have hb:(decide (1<=k) && decide (k<=4))=false:=by
      rw [Bool.eq_false_iff];intro hh;simp at hh;exact h14 hh
    have HE:Hid ((QaR k).k=0/\(QaR k).t=0):=by unfold QaR;rw [if_neg h14];exact ⟨rfl,rfl⟩
    clear h14;go_enter Tryz.func95,Tryz.ntmps95;go_wp2_with (go_at_call 90;refine (Qe5 _ _ _ _).mono ?_;rintro e w1 ⟨rfl,hw⟩;subst hw;rw [hb]);exact bodyPost_ret (v:=Qfq 0 0) (by simp [results,Tryz.results95,go_sem]) rfl ⟨by rw [HE.out.1,HE.out.2],(Below.refl _ _).alloc (Nat.le_refl _) _⟩
abbrev NwCell (w:World) (b:Nat) (kd t:Int):Prop:=
  w.cell? ⟨b,0,none⟩=some (.int .i64 kd)/\w.cell? ⟨b,1,none⟩=some (.int .u64 0)/\w.cell? ⟨b,2,none⟩=some (.int .i64 0)/\w.cell? ⟨b,3,none⟩=some (.int .u64 0)/\w.cell? ⟨b,4,none⟩=some (.int .i64 0)/\w.cell? ⟨b,5,none⟩=some (.int .i64 t)/\w.cell? ⟨b,6,none⟩=some (.int .u64 0)/\w.cell? ⟨b,7,none⟩=some (.slice none 0 0)/\w.cell? ⟨b,8,none⟩=some (.slice none 0 0)/\w.cell? ⟨b,9,none⟩=some (.int .i64 0)/\w.cell? ⟨b,10,none⟩=some (.int .u64 0)/\w.cell? ⟨b,11,none⟩=some (.slice none 0 0)/\w.cell? ⟨b,12,none⟩=some (.slice none 0 0)
abbrev agx (kd t:Int):Ag:=⟨kd,0,0,0,0,t,0,[],[],0,0,[],[]⟩
open Go.Maps
theorem QmX (w:World):(zeroValue 49).run Tryz.prog w=.ok (.agg z13) w:=by kernel_rfl
theorem Qo2 (z:Int) (w:World):(Instr.makeMap 82 (some (.int .i64 z))).run Tryz.prog w=.ok (.map (some w.heap.size)) (w.alloc (.map #[] 0)):=by
  have h:=Tryz.underlying82;simp [Instr.makeMap,h];rfl
structure MoI (w wr:World) (L:List Ce) (k:Nat) (M:List Ce):Prop where
  m:MpC wr w.heap.size k M
  ky:M.map Ce.key=(L.take k).map Ce.key
  o:CesO wr (w.heap.size+1) M
  b:Below w.heap.size w wr
theorem Qce {L M:List Ce} (h:M.map Ce.key=L.map Ce.key) {d:Ce} (hd:d∈M):∃ c∈L,c.n=d.n/\c.s=d.s/\c.g=d.g:=by
  have:d.key∈L.map Ce.key:=by rw [<- h];exact List.mem_map.2 ⟨d,hd,rfl⟩
  obtain ⟨c,hc,e⟩:=List.mem_map.1 this;unfold Ce.key at e;injection e with e1 e2;injection e2 with e2 e3;exact ⟨c,hc,e1,e2,e3⟩
theorem MoI.step {w wr W1 W2:World} {L M:List Ce} {k:Nat} {c:Ce} {q:Pl} {D:DataW Value} (h:MoI w wr L k M) (hc:L[k]?=some c) (hk:QbI c.n c.s) (ap:L.Pairwise (fun c d=>¬ QaT c d))
    (hD:W1.ownsMap Tryz.prog 85 rA w.heap.size k D) (hH:HoldsC D M) (hb:Below wr.heap.size wr W1) (ho:AgO W1 wr.heap.size c.g q)
    (hD2:W2.ownsMap Tryz.prog 85 rA w.heap.size (k+1) (D.put (kL c.n c.s) (QeG ⟨c.n,c.s,c.g,q⟩))) (hg:W1.grownBy W2 (some w.heap.size)):MoI w W2 L (k+1) (M ++ [⟨c.n,c.s,c.g,q⟩]):=by
  have hi:=(ZZd.1 hc).1
  have hne:∀ d∈M,¬ QaT d ⟨c.n,c.s,c.g,q⟩:=fun d hd e=>by
    obtain ⟨x,hx,e1,e2,_⟩:=Qce h.ky hd;obtain ⟨j,hj⟩:=List.mem_iff_getElem?.1 hx
    have hjk:j<k:=by
      have:=(ZZd.1 hj).1;simp at this;omega
    rw [List.getElem?_take_of_lt hjk] at hj;obtain ⟨hj1,hj2⟩:=ZZd.1 hj;obtain ⟨hi1,hi2⟩:=ZZd.1 hc;have:=(List.pairwise_iff_getElem.1 ap) j k hj1 hi1 hjk;rw [hj2,hi2] at this;exact this ⟨e1.trans e.1,e2.trans e.2⟩
  have hp:(⟨c.n,c.s,c.g,q⟩ :: M:List Ce).Perm (M ++ [⟨c.n,c.s,c.g,q⟩]):=(List.perm_append_singleton _ _).symm;have hO:=((h.o.add hb (by have:=h.m.lt;omega) (c:=⟨c.n,c.s,c.g,q⟩) ho).grown hg (Nat.lt_succ_self _)).perm hp;refine ⟨⟨_,hD2,(hH.put_new (hD.tidy keyC) (c:=⟨c.n,c.s,c.g,q⟩) hk hne).perm hp⟩,?_,hO,?_⟩
  · rw [List.map_append,h.ky,List.take_add_one,hc,List.map_append];rfl
  · exact (h.b.trans (hb.mono h.b.size)).grown hg (Nat.le_trans h.b.size hb.size) (fun j hj=>by cases hj;exact ZZa _)
theorem box_ce (w:World) (c:Ce):Below w.heap.size w (w.alloc (.cells (Qao c) 51))/\∀ W,Below (w.alloc (.cells (Qao c) 51)).heap.size (w.alloc (.cells (Qao c) 51)) W->Qcn W w.heap.size 0 c:=
  ⟨(ZZb _ _).alloc (ZZa _) _,fun W hW=>Qai (Qe0 w _ c) hW⟩
theorem Qdj {w:World} {ao:Option Addr} {N ca:Nat} {L:List Ce} (hN:L.length=N) (lN:N<=1048576) (ap:L.Pairwise (fun c d=>¬ QaT c d)) (ky:∀ c∈L,QbI c.n c.s) (sm:∀ c∈L,AgSm c.g) (pl:∀ c∈L,PlG c.g c.p) (hA:Qci w ao L) :
    Calls Tryz.prog 41 #[.slice ao N ca] w fun e w'=>∃ M,e=.returned (.map (some w.heap.size))/\MpC w' w.heap.size N M/\M.map Ce.key=L.map Ce.key/\CesO w' (w.heap.size+1) M/\Below w.heap.size w w':=by
  have HA:=Qaa hA;have HN:=Qaa hN;have AP:=Qaa ap;have KY:=Qaa ky;have SM:=Qaa sm;have PL:=Qaa pl;have hmm:=Qo2;have M0:Hid (MoI w (w.alloc (.map #[] 0)) L 0 []):=(⟨MpC.made w,by simp,CesO.nil _ _,(Below.refl _ _).alloc (Nat.le_refl _) _⟩:MoI w (w.alloc (.map #[] 0)) L 0 []);clear hA hN ap ky sm pl;go_enter Tryz.func41,Tryz.ntmps41;go_wp2
  go_loopw [11] (fun i wr=>∃ (k:Nat) (M:List Ce),k<=N/\i=.int .i64 k/\Hid (MoI w wr L k M)) (fun i wr=>N - (Go.RowKit.intOf i).toNat)
  case atStart=>exact ⟨0,[],ZZj _,rfl,M0⟩
  case round=>
    clear M0;obtain ⟨k,M,hk,rfl,HI⟩:=hrel;by_cases hkn:k<N
    · obtain ⟨g,off,e,hcell⟩:=HA.out.1 (by have:=HN.out;omega)
      obtain ⟨c,hc⟩:∃ c,L[k]?=some c:=⟨L[k]'(by have:=HN.out;omega),ZZe _⟩;subst e;obtain ⟨x0,x1,x2,x3,x4,x5,x6,x7,x8,x9,x10,x11,x12,x13,x14⟩:=Qai (Qai (hcell k c hc) (ZZb _ _)) (HI.out.b);have hm:=ZZn hc;have HC:=Qaa hc;have KC:=Qaa (KY.out c hm);have SC:=Qaa (SM.out c hm);have PC:=Qaa (PL.out c hm);have AC:=Qaa (Qan (HA.out.2 c hm) HI.out.b);have BX:=box_ce wr c;have HB0:=Qaa BX.1;have HX:=Qaa BX.2;have hkni:(k:Int)<(N:Int):=by omega
      clear hcell hc hm BX;go_wp2_with fail;clear x0 x1 x2 x3 x4 x5 x6 x7 x8 x9 x10 x11 x12 x13 x14;generalize hW0:wr.alloc (.cells (Qao c) 51)=W0 at HB0 HX ⊢;clear hW0;have HS0:(fun W=>Below W0.heap.size W0 W) W0.drew:=(ZZb _ _).drew;refine Qaj (fun W=>Below W0.heap.size W0 W) 6 (by kernel_rfl) ?_;refine tkS (i:=0) (v:=.map (some w.heap.size)) rfl rfl HS0 ?_;refine tkL (i:=1) (v:=.agg (Qao c)) rfl rfl HS0 (fun W hW=>?_) ?_
      · obtain ⟨x0,x1,x2,x3,x4,x5,x6,x7,x8,x9,x10,x11,x12,x13,x14⟩:=HX.out W hW
        clear hW;go_simp
      refine tkS (i:=3) (v:=.pointer (some ⟨wr.heap.size,2,none⟩)) rfl rfl HS0 ?_;simp only [sA,sB,sC];refine tkL (i:=4) (v:=.agg (Qal c.g c.p)) rfl rfl HS0 (fun W hW=>?_) ?_
      · obtain ⟨x0,x1,x2,x3,x4,x5,x6,x7,x8,x9,x10,x11,x12,x13,x14⟩:=HX.out W hW
        clear hW;go_simp
      simp only [sA,sB,sC];refine onE (i:=2) rfl (fun K hK=>?_);go_simp;refine (QhJ c _).mono ?_;rintro e w1 ⟨rfl,hb1⟩;have HB1:Hid (Below W0.heap.size W0 w1):=(HS0:Below W0.heap.size W0 W0.drew).trans (hb1.mono (ZZa _));clear hb1;dsimp only;refine hK.out _ _ (fun _=>HB1.out) ?_;clear hK K
      try simp only [Act.put,sA,sB,sC]
      refine onE (i:=5) rfl (fun K hK=>?_);go_simp;refine (Qep SC.out PC.out (Qan AC.out (Qad HB0.out HB1.out))).mono ?_;rintro e w2 ⟨v,o,rfl,rfl,⟨q,rfl,ho⟩,hb2⟩;have HB2:Hid (Below W0.heap.size W0 w2):=Qad HB1.out hb2;have HO:=Qaa (ho.le (show wr.heap.size<=w1.heap.size from (Qad HB0.out HB1.out).size));clear hb2 ho;dsimp only;refine hK.out _ _ (fun _=>HB2.out) ?_;clear hK K
      try simp only [Act.put,sA,sB,sC]
      obtain ⟨D,hD,hH⟩:=(HI.out.m.past (Qad HB0.out HB2.out));obtain ⟨W3,hrun,hD3,hg3⟩:=hD.update (val:=.agg (Qal c.g q)) (d:=QeG ⟨c.n,c.s,c.g,q⟩) (ps:=[]) keyC Tryz.underlying82 (by unfold maxLen;omega) (Qbd KC.out) rfl;have HF:=Qaa (HI.out.step HC.out KC.out AP.out hD hH (Qad HB0.out HB2.out) HO.out hD3 hg3);clear hD hH hD3 hg3;refine onE (i:=6) rfl (fun K hK=>?_);go_simp;refine hK.out _ _ (fun h=>absurd rfl h) ?_;clear hK K
      try simp only [Act.put,sA,sB,sC]
      refine Qar (by kernel_rfl) ?_ _;go_wp2;go_roundw
      case rel=>exact ⟨k+1,_,by omega,by go_num,HF⟩
      case measure=>simp [Go.RowKit.intOf];omega
    · have eL:L.take k=L:=List.take_of_length_le (by have:=HN.out;omega)
      obtain rfl:k=N:=by omega
      have HF:Hid (M.map Ce.key=L.map Ce.key):=by have:=HI.out.ky;rw [eL] at this;exact this
      clear eL hk hkn;go_wp2;go_ret;exact ⟨M,rfl,HI.out.m,HF.out,HI.out.o,HI.out.b⟩
theorem QoT (w:World):(Instr.makeMap 82 none).run Tryz.prog w=.ok (.map (some w.heap.size)) (w.alloc (.map #[] 0)):=by
  have h:=Tryz.underlying82;simp [Instr.makeMap,h]
def isW (win:Int) (c:Ce):Bool:=c.n == win
structure TkS (w:World) (b:Nat) (win:Int) (L:List Ce) (wr:World) (D:DataW Value) (left:Lit->Bool) (cnt n:Nat) (T M R:List Ce):Prop where
  rg:wr.ranges Tryz.prog 85 rA b (w.heap.size+1) n D left cnt
  ho:HoldsC D (M ++ R)
  rc:RgC D left (M ++ R) M R
  mt:MpC wr w.heap.size T.length T
  p:(T ++ (M ++ R)).Perm L
  ty:∀ c∈T,c.n=win
  mn:∀ c∈M,c.n≠win
  g:w.grownBy wr (some b)
def TkI (w:World) (b n:Nat) (win:Int) (L:List Ce) (wr:World):Prop:=∃ D left cnt T M R,TkS w b win L wr D left cnt n T M R
theorem RgC.re {D D':DataW Value} {left:Lit->Bool} {L M R:List Ce} (h:RgC D left L M R):RgC D' left (M ++ R) M R:=⟨.refl _,h.no,h.yes⟩
theorem Qjw {w wr w':World} {r:Option Nat} (h:w.grownBy wr r) (hb:Below wr.heap.size wr w'):w.grownBy w' r:=
  ⟨hb.os.trans h.os,hb.tape.trans h.tape,hb.output.trans h.output,Nat.le_trans h.size hb.size,fun i hi hn=>(hb.block i (Nat.lt_of_lt_of_le hi h.size)).trans (h.block i hi hn)⟩
theorem Qqb {w w':World} {b r n cnt:Nat} {D:DataW Value} {left:Lit->Bool} (h:w.ranges Tryz.prog 85 rA b r n D left cnt) (hb:Below w.heap.size w w'):w'.ranges Tryz.prog 85 rA b r n D left cnt:=
  h.kept (row:=none) ⟨hb.os,hb.tape,hb.output,hb.size,fun i hi _=>hb.block i hi⟩ (by simp) (by simp)
structure TkN (w:World) (b:Nat) (win:Int) (L:List Ce) (W:World) (D:DataW Value) (left':Lit->Bool) (cnt2 n:Nat) (T M R':List Ce) (c:Ce):Prop where
  rg:W.ranges Tryz.prog 85 rA b (w.heap.size+1) n D left' cnt2
  ho:HoldsC D ((M ++ [c]) ++ R')
  rc:RgC D left' ((M ++ [c]) ++ R') (M ++ [c]) R'
  mt:MpC W w.heap.size T.length T
  p:(T ++ ((M ++ [c]) ++ R')).Perm L
  ty:∀ c∈T,c.n=win
  mn:∀ c∈M,c.n≠win
  g:w.grownBy W (some b)
theorem TkS.next {w wr w2:World} {b n cnt cnt2:Nat} {win:Int} {L T M R R':List Ce} {D:DataW Value} {left left':Lit->Bool} {c:Ce} (h:TkS w b win L wr D left cnt n T M R) (hb:b<w.heap.size) (hpR:R.Perm (c :: R')) (hrc:RgC D left' (M ++ R) (M ++ [c]) R')
    (hrg2:w2.ranges Tryz.prog 85 rA b (w.heap.size+1) n D left' cnt2) (hg2:wr.grownBy w2 (some (w.heap.size+1))) (W:World) (hW:Below w2.heap.size w2 W):TkN w b win L W D left' cnt2 n T M R' c:=by
  have p1:(M ++ R).Perm ((M ++ [c]) ++ R'):=by
    rw [List.append_assoc];exact List.Perm.append_left M hpR
  have g2:w.grownBy w2 (some b):=h.g.andThen hg2 (fun j hj=>by cases hj;exact .inl (Nat.le_succ _));exact ⟨Qqb hrg2 hW,h.ho.perm p1,hrc.re,((h.mt.kept hg2 (by simp)).past hW),(List.Perm.append_left T p1.symm).trans h.p,h.ty,h.mn,Qjw g2 hW⟩
theorem TkN.stay {w W:World} {b n cnt2:Nat} {win:Int} {L T M R':List Ce} {D:DataW Value} {left':Lit->Bool} {c:Ce} (h:TkN w b win L W D left' cnt2 n T M R' c) (hc:c.n≠win):TkS w b win L W D left' cnt2 n T (M ++ [c]) R':=
  ⟨h.rg,h.ho,h.rc,h.mt,h.p,h.ty,fun x hx=>by
    rcases List.mem_append.1 hx with q | q
    · exact h.mn x q
    · obtain rfl:x=c:=by simpa using q
      exact hc,h.g⟩
theorem TkN.move {w W W4 W5:World} {b n cnt2 cnt3:Nat} {win:Int} {L T M R':List Ce} {D DT:DataW Value} {left':Lit->Bool} {c:Ce} (h:TkN w b win L W D left' cnt2 n T M R' c) (hb:b<w.heap.size) (hap:L.Pairwise (fun c d=>¬ QaT c d)) (hc:c.n=win)
    (hT:W.ownsMap Tryz.prog 85 rA w.heap.size T.length DT) (hTo:HoldsC DT T)
    (hT4:W4.ownsMap Tryz.prog 85 rA w.heap.size (T.length+1) (DT.put (kL c.n c.s) (QeG c))) (hg4:W.grownBy W4 (some w.heap.size))
    (hrg5:W5.ranges Tryz.prog 85 rA b (w.heap.size+1) n (D.del (kL c.n c.s)) (fun z=>left' z && !z.sameKey (kL c.n c.s)) cnt3) (ht5:W4.mapTurned W5 b) :
    TkS w b win L W5 (D.del (kL c.n c.s)) (fun z=>left' z && !z.sameKey (kL c.n c.s)) cnt3 n (T ++ [c]) M R':=by
  have p1:((M ++ [c]) ++ R').Perm (c :: (M ++ R')):=by
    rw [List.append_assoc];exact List.perm_middle
  have ho1:=h.ho.perm p1;have hd:=ho1.del (h.rg.owns.tidy keyC);obtain ⟨a1,a2⟩:=List.pairwise_cons.1 ho1.ap;have kc:=ho1.wf c (by simp)
  have hne:∀ d∈T,¬ QaT d c:=fun d hd' e=>by
    have q:=(h.p.symm.pairwise_iff (fun {a b} (q:¬ QaT a b)=>fun e=>q ⟨e.1.symm,e.2.symm⟩)).1 hap;exact (List.pairwise_append.1 q).2.2 d hd' c (by simp) e
  have pT:(c :: T).Perm (T ++ [c]):=(List.perm_append_singleton _ _).symm;refine ⟨hrg5,hd,⟨.refl _,fun x hx=>?_,fun x hx=>?_⟩,?_,?_,fun x hx=>?_,h.mn,?_⟩
  · simp [h.rc.no x (List.mem_append_left _ hx)]
  · have hk:¬ QaT x c:=fun e=>a1 x (List.mem_append_right _ hx) ⟨e.1.symm,e.2.symm⟩
    simp [h.rc.yes x hx,Qg7 (hd.wf x (List.mem_append_right _ hx)) kc hk]
  · have k5:MpC W4 w.heap.size (T ++ [c]).length (T ++ [c]):=⟨_,by rw [List.length_append];exact hT4,(hTo.put_new (hT.tidy keyC) kc hne).perm pT⟩
    exact k5.kept ht5.grown (by simp;omega)
  · refine List.Perm.trans ?_ h.p
    rw [List.append_assoc];exact List.Perm.append_left T p1.symm
  · rcases List.mem_append.1 hx with q | q
    · exact h.ty x q
    · obtain rfl:x=c:=by simpa using q
      exact hc
  · exact (h.g.andThen hg4 (fun j hj=>by cases hj;exact .inl (ZZa _))).andThen ht5.grown (fun j hj=>by cases hj;exact .inr rfl)
theorem TkS.fin {w wr:World} {b n cnt:Nat} {win:Int} {L T M R:List Ce} {D:DataW Value} {left:Lit->Bool} (h:TkS w b win L wr D left cnt n T M R) (hl:∀ z,left z=false):MpC wr w.heap.size T.length (L.filter (isW win))/\MpC wr b n (L.filter (fun c=>!isW win c)):=by
  have hR:R=[]:=by
    cases R with
    | nil=>rfl
    | cons c R=>have:=h.rc.yes c (by simp);rw [hl] at this;cases this
  subst hR;have p:=h.p;have ho:=h.ho;rw [List.append_nil] at p ho
  have e1:(T ++ M).filter (isW win)=T:=by
    rw [List.filter_append,List.filter_eq_self.2 (fun c hc=>by simp [isW,h.ty c hc]),List.filter_eq_nil_iff.2 (fun c hc=>by simp [isW,h.mn c hc]),List.append_nil]
  have e2:(T ++ M).filter (fun c=>!isW win c)=M:=by
    rw [List.filter_append,List.filter_eq_nil_iff.2 (fun c hc=>by simp [isW,h.ty c hc]),List.filter_eq_self.2 (fun c hc=>by simp [isW,h.mn c hc]),List.nil_append]
  have p1:=p.filter (isW win);have p2:=p.filter (fun c=>!isW win c);rw [e1] at p1;rw [e2] at p2;exact ⟨h.mt.perm p1,⟨D,h.rg.owns,ho.perm p2⟩⟩
theorem c_take {w:World} {b n:Nat} {L:List Ce} (win:Int) (hM:MpC w b n L) (hL:L.length<=1048576) :
    Calls Tryz.prog 51 #[.map (some b),.int .i64 win] w fun e w'=>∃ m,e=.returned (.map (some w.heap.size))/\MpC w' w.heap.size m (L.filter (isW win))/\MpC w' b n (L.filter (fun c=>!isW win c))/\w.grownBy w' (some b):=by
  obtain ⟨D,hown,hold⟩:=hM;have hbs:=hown.lt;have HBS:=Qaa hbs;have AP:=Qaa hold.ap;have LL:=Qaa hL;have hmm:=QoT;have HD:=Qaa (hown.alloc (.map #[] 0))
  have H0:Hid (∀ w0:World,w0.ranges Tryz.prog 85 rA b (w.heap.size+1) n D (Maps.has D) (Maps.size D)->(w.alloc (.map #[] 0)).grownBy w0 none->TkI w b n win L w0):=fun w0 q1 q2=>
    ⟨D,_,_,[],[],L,q1,hold,RgC.start hold,(MpC.made w).kept q2 (by simp),.refl _,(fun c hc=>by cases hc),(fun c hc=>by cases hc),((World.grownBy_alloc w _ (some b)).andThen q2 (fun j hj=>by cases hj))⟩
  clear hown hold hbs hL;go_enter Tryz.func51,Tryz.ntmps51;go_wp2_with (at_range;refine wpList_range_own _ rfl _ 82 rfl 85 49 keyC Tryz.underlying82 _ b n _ rfl HD.out ?_;intro w0 hrg0 hg0 hs0;rw [show (w.alloc (.map #[] 0)).heap.size=w.heap.size+1 by simp] at hrg0 ⊢; have HI:=Qaa (H0.out w0 hrg0 hg0);clear hrg0 hg0 hs0)
  go_frame
  go_loopw [6] (fun _ wr=>Hid (TkI w b n win L wr)) (fun _ wr=>wr.rangeLeft b (w.heap.size+1))
  case atStart=>exact HI
  case round=>
    clear HI H0 HD;obtain ⟨D,left,cnt,T,M,R,hS⟩:=hrel.out;have HS:=Qaa hS;clear hrel hS;go_wp2_with (at_next;refine wpList_next_ranges _ rfl _ rfl 85 keyC rA (fun x:Int×ByteArray=>Qkp x.1 x.2) Value.agg Qmn (fun v y hv=>Qk6 hv) b (w.heap.size+1) n _ _ _ rfl HS.out.rg ?_ ?_)
    · intro hc0 hl0
      have HF:=Qaa (HS.out.fin hl0);have HG:=Qaa HS.out.g;clear hc0 hl0 HS;go_wp2;go_ret;exact ⟨_,rfl,HF.out.1,HF.out.2,HG.out⟩
    · intro xn xs cs kl y1 y2 w2 cnt2 hkey hlx hv hat hrg2 hlt hg2 hs2 hen
      obtain ⟨n',s',ek,rfl,kok⟩:=QfW hkey;obtain ⟨e1,e2⟩:=Qkv ek;subst e1;subst e2;have hy:y1=.held (.agg cs):=by cases hv;rfl
      obtain ⟨c,q1,q2,q3,R',hpR,hrc'⟩:=HS.out.rc.next HS.out.ho kok hlx hat;rw [hy] at q3;obtain rfl:=QhO q3;subst q1;subst q2;have HN:=Qaa (HS.out.next HBS.out hpR hrc' hrg2 hg2);have KC:=Qaa kok;have HZ:Hid (w.heap.size<w2.heap.size):=Nat.lt_of_lt_of_le HS.out.mt.lt hg2.size;have HLt:Hid (cnt2<wr.rangeLeft b (w.heap.size+1)):=by rw [HS.out.rg.left_eq];exact hlt
      obtain ⟨k1,k2,k3⟩:=Qpa w2 c.n c.s c.g c.p;have K2:=Qaa k2.out;have K3:=Qaa k3.out;clear hkey hlx hv hat hrg2 hlt hg2 hs2 ek kok hy q3 hpR hrc' k2 k3 HS;go_upto_region 5 with fail;have HN3:=Qaa (HN.out _ k1.out);clear HN k1;generalize (w2.alloc (.cells #[.int .i64 c.n,.string c.s] 85)).alloc (.cells (Qal c.g c.p) 49)=W3 at HN3 K2 K3 ⊢;have hR1:=Qaq K2.out 0 rfl;have hR2:=Qaq K2.out 1 rfl;by_cases hcw:c.n=win
      · have hG0:=Qaq K3.out 0 rfl
        have hG1:=Qac K3.out 1 rfl;have hG2:=Qac K3.out 2 rfl;have hG3:=Qac K3.out 3 rfl;have hG4:=Qac K3.out 4 rfl;have hG5:=Qac K3.out 5 rfl;have hG6:=Qac K3.out 6 rfl;have hG7:=Qac K3.out 7 rfl;have hG8:=Qac K3.out 8 rfl;have hG9:=Qac K3.out 9 rfl;have hG10:=Qac K3.out 10 rfl;have hG11:=Qac K3.out 11 rfl;have hG12:=Qac K3.out 12 rfl;have bw:(c.n == win)=true:=by simp [hcw]
        obtain ⟨DT,hDT,hTo⟩:=HN3.out.mt;have HDT:=Qaa hDT;have HTo:=Qaa hTo;have HCW:=Qaa hcw
        have lT:T.length<=1048576:=by
          have:=HN3.out.p.length_eq;have:=LL.out;simp at *; omega
        have hkw:=Qbd KC.out;have HKW:=Qaa hkw
        have HK3:Hid (∀ W4,W3.grownBy W4 (some w.heap.size)->W4.cell? ⟨w2.heap.size,0,none⟩=some (.int .i64 c.n)/\W4.cell? ⟨w2.heap.size,1,none⟩=some (.string c.s)):=fun W4 hg=>by
          have hne:w2.heap.size≠w.heap.size:=by have:=HZ.out;omega
          have q:=(hg.block w2.heap.size (Array.getElem?_eq_some_iff.1 K2.out).1 (by simpa using hne)).trans K2.out;exact ⟨Qaq q 0 rfl,Qaq q 1 rfl⟩
        clear hcw hDT hTo
        go_wp2_with (first
          | (at_mapUpdate;refine wpList_mapUpdate_own _ rfl _ _ _ 82 rfl 85 49 keyC Tryz.underlying82 _ w.heap.size T.length _ rfl HDT.out (by unfold maxLen;omega) _ _ _ rfl rfl HKW.out (QeG c) [] rfl ?_;intro W4 hD4 hg4;have HD4:=Qaa hD4;have HG4:=Qaa hg4;obtain ⟨y0,y1⟩:=HK3.out W4 hg4;have HR4:=Qaa (HN3.out.rg.kept hg4 (by have:=HBS.out;simp;omega) (by simp));clear hD4 hg4)
          | (refine wpList_delete_ranges _ rfl _ _ 82 85 rfl 49 keyC Tryz.underlying82 _ b (w.heap.size+1) n _ _ _ rfl HR4.out _ _ rfl HKW.out ?_;intro W5 cnt3 hrg5 hle5 htn5;go_frame))
        have hL2:Hid (TkI w b n win L W5):=⟨_,_,_,_,_,_,HN3.out.move HBS.out AP.out HCW.out HDT.out HTo.out HD4.out HG4.out hrg5 htn5⟩
        have hms:Hid (W5.rangeLeft b (w.heap.size+1)<wr.rangeLeft b (w.heap.size+1)):=by
          show _<_
          rw [hrg5.left_eq];have:=HLt.out;omega
        clear hrg5 hle5 htn5;go_roundw
        case rel=>exact hL2
        case measure=>exact hms.out
      · have bw:(c.n == win)=false:=by simp [hcw]
        have hL2:Hid (TkI w b n win L W3):=⟨_,_,_,_,_,_,HN3.out.stay hcw⟩
        have hms:Hid (W3.rangeLeft b (w.heap.size+1)<wr.rangeLeft b (w.heap.size+1)):=by
          show _<_
          rw [HN3.out.rg.left_eq];exact HLt.out
        clear hcw;go_wp2;go_roundw
        case rel=>exact hL2
        case measure=>exact hms.out
theorem MpC.look_yes {w:World} {b n:Nat} {L:List Ce} {c:Ce} (h:MpC w b n L) (hc:c∈L):(Instr.lookup 82 (.map (some b)) (Qkp c.n c.s) true).run Tryz.prog w=.ok (.tuple #[.agg (Qal c.g c.p),.bool true]) w:=by
  obtain ⟨D,hD,hH⟩:=h;obtain ⟨v,ps,hrun,hv⟩:=hD.look_ok (zd:=.held (.agg z13)) (zp:=[]) keyC Tryz.underlying82 (QmX w) rfl (Qbd (hH.wf c hc));rw [hH.some hc] at hrun;rw [hH.val c hc] at hv;obtain ⟨cs,rfl⟩:=Qk6 hv
  have e:(DataW.held (Value.agg cs):DataW Value)=QeG c:=by
    have:=Option.some.inj hv;exact congrArg Prod.fst this
  rw [QhO e] at hrun;exact hrun
theorem MpC.look_no {w:World} {b n:Nat} {L:List Ce} {m:Int} {s:ByteArray} (h:MpC w b n L) (k:QbI m s) (hn:∀ d∈L,¬ (d.n=m/\d.s=s)):(Instr.lookup 82 (.map (some b)) (Qkp m s) true).run Tryz.prog w=.ok (.tuple #[.agg z13,.bool false]) w:=by
  obtain ⟨D,hD,hH⟩:=h;obtain ⟨v,ps,hrun,hv⟩:=hD.look_ok (zd:=.held (.agg z13)) (zp:=[]) keyC Tryz.underlying82 (QmX w) rfl (Qbd k);have hh:=hH.none k hn;rw [hh] at hrun;rw [atKey_of_not_has hh] at hv;obtain ⟨cs,rfl⟩:=Qk6 hv
  have e:(DataW.held (Value.agg cs):DataW Value)=.held (.agg z13):=by
    have:=Option.some.inj hv;exact congrArg Prod.fst this
  injection e with e;injection e with e;rw [e] at hrun;exact hrun
theorem c_newX {w:World} {k:Int} (h1:1<=k) (h4:k<=4):Calls Tryz.prog 83 #[.int .i64 k] w fun e w'=>e=.returned (.agg (Qal (QaR k) pl0))/\Below w.heap.size w w':=by
  refine (QlS k w).mono (fun e w' h=>?_);have e:QaR k=⟨k,0,0,0,0,if k=2 then -1 else 0,0,[],[],0,0,[],[]⟩:=by unfold QaR;rw [if_pos ⟨h1,h4⟩]
  rw [e] at h ⊢;exact h
theorem QmE (w:World) (n:Int) (s:ByteArray):Hid (Below w.heap.size w ((w.alloc (.cells #[.int .i64 n,.string s] 85)).alloc (.cells z13 49)))/\Hid (((w.alloc (.cells #[.int .i64 n,.string s] 85)).alloc (.cells z13 49)).heap[w.heap.size]?=some (.cells #[.int .i64 n,.string s] 85 (0,0)))/\Hid (((w.alloc (.cells #[.int .i64 n,.string s] 85)).alloc (.cells z13 49)).heap[w.heap.size+1]?=some (.cells z13 49 (0,0))):=by
  have a1:∀ (X:World) o,Below X.heap.size X (X.alloc o):=fun X o=>(ZZb _ _).alloc (ZZa _) _;have k0:=ZZk w (.cells #[.int .i64 n,.string s] 85);have k1:=ZZk (w.alloc (.cells #[.int .i64 n,.string s] 85)) (.cells z13 49);simp only [World.size_alloc] at k1;exact ⟨Qaa (Qad (a1 _ _) (a1 _ _)),Qaa (((a1 _ _).block _ (by simp)).trans k0),Qaa k1⟩
theorem Qju {w:World} {b n:Nat} {L:List Ce} (m:Int) (s:ByteArray) (kind:Int) (h:MpC w b n L) (k:QbI m s) (hn:∀ d∈L,¬ (d.n=m/\d.s=s)) (h1:1<=kind) (h4:kind<=4) :
    Calls Tryz.prog 42 #[.map (some b),Qkp m s,.int .i64 kind] w fun e w'=>e=.returned (.tuple #[.agg (Qal (QaR kind) pl0),.int .i64 0])/\Below w.heap.size w w':=by
  obtain ⟨k0,k1,k2⟩:=QmE w m s;have hlk:=(h.past k0.out).look_no k hn;have x0:=Qaq k1.out 0 rfl;have x1:=Qaq k1.out 1 rfl;clear h k hn;go_enter Tryz.func42,Tryz.ntmps42;go_wp2_with fail;generalize hW0:(w.alloc (.cells #[.int .i64 m,.string s] 85)).alloc (.cells z13 49)=W0 at k0 k1 k2 hlk x0 x1 ⊢;clear hlk x0 x1 hW0;have a1:Below W0.heap.size W0 (W0.alloc (.cells z13 49)):=(ZZb _ _).alloc (ZZa _) _;have A1:=Qaa a1;clear a1;refine (c_newX h1 h4).mono ?_;rintro e w1 ⟨rfl,hb1⟩;have HT1:=Qaa (Qad k0.out (Qad A1.out hb1));have k3:=Qaa ((((Qad A1.out hb1).block _ (ZZc.1 k2.out).1)).trans k2.out);obtain ⟨f0,f1,f2,f3,f4,f5,f6,f7,f8,f9,f10,f11,f12⟩:=Qdr k3.out;obtain ⟨y0,y1,y2,y3,y4,y5,y6,y7,y8,y9,y10,y11,y12⟩:=Qby k3.out;clear hb1;go_wp2;refine bodyPost_ret (v:=.tuple #[.agg (Qal (QaR kind) pl0),.int .i64 0]) (by simp [results,Tryz.results42,go_sem,y0,y1,y2,y3,y4,y5,y6,y7,y8,y9,y10,y11,y12]) rfl ⟨rfl,?_⟩
  repeat (refine Below.setCell ?_ (by simp) _)
  exact HT1.out
theorem Qit {w:World} {b n:Nat} {L:List Ce} {c:Ce} (kind:Int) (h:MpC w b n L) (hc:c∈L) (hk:c.g.k=kind) :
    Calls Tryz.prog 42 #[.map (some b),Qkp c.n c.s,.int .i64 kind] w fun e w'=>e=.returned (.tuple #[.agg (Qal c.g c.p),.int .i64 0])/\Below w.heap.size w w':=by
  obtain ⟨k0,k1,k2⟩:=QmE w c.n c.s;have hlk:=(h.past k0.out).look_yes hc;have x0:=Qaq k1.out 0 rfl;have x1:=Qaq k1.out 1 rfl;clear h hc;have hkb:(c.g.k != kind)=false:=by simp [hk]
  clear hk;obtain ⟨f0,f1,f2,f3,f4,f5,f6,f7,f8,f9,f10,f11,f12⟩:=Qdr k2.out;obtain ⟨y0,y1,y2,y3,y4,y5,y6,y7,y8,y9,y10,y11,y12⟩:=Qby k2.out;go_enter Tryz.func42,Tryz.ntmps42;go_wp2;refine bodyPost_ret (v:=.tuple #[.agg (Qal c.g c.p),.int .i64 0]) (by simp [results,Tryz.results42,go_sem]) rfl ⟨rfl,?_⟩
  first
    | exact (k0.out.alloc (by simp <;> omega) _)
    | (repeat (first | refine Below.setCell ?_ (by simp) _ | refine Below.alloc ?_ (by simp <;> omega) _)
       exact ZZb _ _)
theorem QiV {w:World} {b n:Nat} {L:List Ce} {c:Ce} (kind:Int) (h:MpC w b n L) (hc:c∈L) (hk:¬ c.g.k=kind) :
    Calls Tryz.prog 42 #[.map (some b),Qkp c.n c.s,.int .i64 kind] w fun e w'=>e=.returned (.tuple #[.agg z13,.int .i64 9])/\Below w.heap.size w w':=by
  obtain ⟨k0,k1,k2⟩:=QmE w c.n c.s;have hlk:=(h.past k0.out).look_yes hc;have x0:=Qaq k1.out 0 rfl;have x1:=Qaq k1.out 1 rfl;clear h hc;have hkb:(c.g.k != kind)=true:=by simp [hk]
  clear hk;obtain ⟨f0,f1,f2,f3,f4,f5,f6,f7,f8,f9,f10,f11,f12⟩:=Qdr k2.out;obtain ⟨y0,y1,y2,y3,y4,y5,y6,y7,y8,y9,y10,y11,y12⟩:=Qby k2.out;go_enter Tryz.func42,Tryz.ntmps42;go_wp2;refine bodyPost_ret (v:=.tuple #[.agg z13,.int .i64 9]) (by simp [results,Tryz.results42,go_sem]) rfl ⟨rfl,?_⟩
  first
    | exact (k0.out.alloc (by simp <;> omega) _)
    | (repeat (first | refine Below.setCell ?_ (by simp) _ | refine Below.alloc ?_ (by simp <;> omega) _)
       exact ZZb _ _)
end Go.Proofs.YthchmdmncmioiaaGreatDoor
