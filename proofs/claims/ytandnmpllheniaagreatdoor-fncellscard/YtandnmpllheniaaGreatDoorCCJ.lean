/-
 Parts.
-/
import Derived.Test.YtandnmpllheniaaGreatDoorCPA
import Derived.Test.YtandnmpllheniaaGreatDoorCCI
set_option linter.all false
set_option maxHeartbeats 8000000
namespace Go.Proofs.YtandnmpllheniaaGreatDoor
open Go.ChangeShapes Go.WideShapes Go.ChangeAt Go.RowKit Go.PlainAid Go.Lib
set_option maxRecDepth 10000
def QaN (k:Int):Ag:=if 1<=k/\k<=4 then ⟨k,0,0,0,0,if k=2 then -1 else 0,0,[],[],0,0,[],[]⟩ else ⟨0,0,0,0,0,0,0,[],[],0,0,[],[]⟩
def plNil:Pl:=⟨none,0,none,0,none,0,none,0⟩
abbrev QfW (kd t:Int):Value:=.agg #[.int .i64 kd,.int .u64 0,.int .i64 0,.int .u64 0,.int .i64 0,.int .i64 t,.int .u64 0,.slice none 0 0,.slice none 0 0,.int .i64 0,.int .u64 0,.slice none 0 0,.slice none 0 0]
theorem QdV (k:Int) (w:World):Calls Tryz.prog 77 #[.int .i64 k] w fun e w'=>e=.returned (.bool (decide (1<=k) && decide (k<=4)))/\w'=w:=by
  by_cases h1:1<=k <;> by_cases h2:k<=4 <;> (go_enter Tryz.func77,Tryz.ntmps77;go_wp2;go_ret;exact ⟨by simp [h1,h2],rfl⟩)
theorem Qfs (n lo hi:Int) (w:World):Calls Tryz.prog 90 #[.int .i64 n,.int .i64 lo,.int .i64 hi] w fun e w'=>e=.returned (.bool (decide (lo<=n) && decide (n<=hi)))/\w'=w:=by
  by_cases h1:lo<=n <;> by_cases h2:n<=hi <;> (go_enter Tryz.func90,Tryz.ntmps90;go_wp2;go_ret;exact ⟨by simp [h1,h2],rfl⟩)
theorem Ql2 (k:Int) (w:World):Calls Tryz.prog 83 #[.int .i64 k] w fun e w'=>e=.returned (QfW (QaN k).k (QaN k).t)/\Below w.heap.size w w':=by
  by_cases aa:1<=k/\k<=4
  · have hb:(decide (1<=k) && decide (k<=4))=true:=by simp [aa.1,aa.2]
    by_cases h2:k=2
    · have HE:Hid ((QaN k).k=k/\(QaN k).t=-1):=by unfold QaN;rw [if_pos aa];exact ⟨rfl,by simp [h2]⟩
      have b2:(k == 2)=true:=by simp [h2]
      clear aa h2;go_enter Tryz.func83,Tryz.ntmps83;go_wp2_with (go_at_call 77;refine (QdV _ _).mono ?_;rintro e w1 ⟨rfl,hw⟩;subst hw;rw [hb]);exact bodyPost_ret (v:=QfW k (-1)) (by simp [results,Tryz.results83,go_sem]) rfl ⟨by rw [HE.out.1,HE.out.2],((Below.refl _ _).alloc (Nat.le_refl _) _).alloc (by simp) _⟩
    · have HE:Hid ((QaN k).k=k/\(QaN k).t=0):=by unfold QaN;rw [if_pos aa];exact ⟨rfl,by simp [h2]⟩
      have b2:(k == 2)=false:=ZZf.2 h2;clear aa h2;go_enter Tryz.func83,Tryz.ntmps83;go_wp2_with (go_at_call 77;refine (QdV _ _).mono ?_;rintro e w1 ⟨rfl,hw⟩;subst hw;rw [hb]);exact bodyPost_ret (v:=QfW k 0) (by simp [results,Tryz.results83,go_sem]) rfl ⟨by rw [HE.out.1,HE.out.2],((Below.refl _ _).alloc (Nat.le_refl _) _).alloc (by simp) _⟩
  · have hb:(decide (1<=k) && decide (k<=4))=false:=by
      rw [Bool.eq_false_iff];intro hh;simp at hh;exact aa hh
    have HE:Hid ((QaN k).k=0/\(QaN k).t=0):=by unfold QaN;rw [if_neg aa];exact ⟨rfl,rfl⟩
    clear aa;go_enter Tryz.func83,Tryz.ntmps83;go_wp2_with (go_at_call 77;refine (QdV _ _).mono ?_;rintro e w1 ⟨rfl,hw⟩;subst hw;rw [hb]);exact bodyPost_ret (v:=QfW 0 0) (by simp [results,Tryz.results83,go_sem]) rfl ⟨by rw [HE.out.1,HE.out.2],(Below.refl _ _).alloc (Nat.le_refl _) _⟩
theorem Ql1 (k:Int) (w:World):Calls Tryz.prog 95 #[.int .i64 k] w fun e w'=>e=.returned (QfW (QaN k).k (QaN k).t)/\Below w.heap.size w w':=by
  by_cases aa:1<=k/\k<=4
  · have hb:(decide (1<=k) && decide (k<=4))=true:=by simp [aa.1,aa.2]
    by_cases h2:k=2
    · have HE:Hid ((QaN k).k=k/\(QaN k).t=-1):=by unfold QaN;rw [if_pos aa];exact ⟨rfl,by simp [h2]⟩
      have b2:(k == 2)=true:=by simp [h2]
      clear aa h2;go_enter Tryz.func95,Tryz.ntmps95;go_wp2_with (go_at_call 90;refine (Qfs _ _ _ _).mono ?_;rintro e w1 ⟨rfl,hw⟩;subst hw;rw [hb]);exact bodyPost_ret (v:=QfW k (-1)) (by simp [results,Tryz.results95,go_sem]) rfl ⟨by rw [HE.out.1,HE.out.2],((Below.refl _ _).alloc (Nat.le_refl _) _).alloc (by simp) _⟩
    · have HE:Hid ((QaN k).k=k/\(QaN k).t=0):=by unfold QaN;rw [if_pos aa];exact ⟨rfl,by simp [h2]⟩
      have b2:(k == 2)=false:=ZZf.2 h2;clear aa h2;go_enter Tryz.func95,Tryz.ntmps95;go_wp2_with (go_at_call 90;refine (Qfs _ _ _ _).mono ?_;rintro e w1 ⟨rfl,hw⟩;subst hw;rw [hb]);exact bodyPost_ret (v:=QfW k 0) (by simp [results,Tryz.results95,go_sem]) rfl ⟨by rw [HE.out.1,HE.out.2],((Below.refl _ _).alloc (Nat.le_refl _) _).alloc (by simp) _⟩
  · have hb:(decide (1<=k) && decide (k<=4))=false:=by
      rw [Bool.eq_false_iff];intro hh;simp at hh;exact aa hh
    have HE:Hid ((QaN k).k=0/\(QaN k).t=0):=by unfold QaN;rw [if_neg aa];exact ⟨rfl,rfl⟩
    clear aa;go_enter Tryz.func95,Tryz.ntmps95;go_wp2_with (go_at_call 90;refine (Qfs _ _ _ _).mono ?_;rintro e w1 ⟨rfl,hw⟩;subst hw;rw [hb]);exact bodyPost_ret (v:=QfW 0 0) (by simp [results,Tryz.results95,go_sem]) rfl ⟨by rw [HE.out.1,HE.out.2],(Below.refl _ _).alloc (Nat.le_refl _) _⟩
abbrev NwCell (w:World) (b:Nat) (kd t:Int):Prop:=
  w.cell? ⟨b,0,none⟩=some (.int .i64 kd)/\w.cell? ⟨b,1,none⟩=some (.int .u64 0)/\w.cell? ⟨b,2,none⟩=some (.int .i64 0)/\w.cell? ⟨b,3,none⟩=some (.int .u64 0)/\w.cell? ⟨b,4,none⟩=some (.int .i64 0)/\w.cell? ⟨b,5,none⟩=some (.int .i64 t)/\w.cell? ⟨b,6,none⟩=some (.int .u64 0)/\w.cell? ⟨b,7,none⟩=some (.slice none 0 0)/\w.cell? ⟨b,8,none⟩=some (.slice none 0 0)/\w.cell? ⟨b,9,none⟩=some (.int .i64 0)/\w.cell? ⟨b,10,none⟩=some (.int .u64 0)/\w.cell? ⟨b,11,none⟩=some (.slice none 0 0)/\w.cell? ⟨b,12,none⟩=some (.slice none 0 0)
abbrev agx (kd t:Int):Ag:=⟨kd,0,0,0,0,t,0,[],[],0,0,[],[]⟩
open Go.Maps
theorem Qnc (w:World):(zeroValue 49).run Tryz.prog w=.ok (.agg z13) w:=by kernel_rfl
theorem Qpe (z:Int) (w:World):(Instr.makeMap 82 (some (.int .i64 z))).run Tryz.prog w=.ok (.map (some w.heap.size)) (w.alloc (.map #[] 0)):=by
  have h:=Tryz.underlying82;simp [Instr.makeMap,h];rfl
structure MoI (w wr:World) (L:List Ce) (k:Nat) (M:List Ce):Prop where
  m:MpC wr w.heap.size k M
  ky:M.map Ce.key=(L.take k).map Ce.key
  o:CesO wr (w.heap.size+1) M
  b:Below w.heap.size w wr
theorem Qcw {L M:List Ce} (h:M.map Ce.key=L.map Ce.key) {d:Ce} (hd:d∈M):∃ c∈L,c.n=d.n/\c.s=d.s/\c.g=d.g:=by
  have:d.key∈L.map Ce.key:=by rw [<- h];exact List.mem_map.2 ⟨d,hd,rfl⟩
  obtain ⟨c,hc,e⟩:=List.mem_map.1 this;unfold Ce.key at e;injection e with e1 e2;injection e2 with e2 e3;exact ⟨c,hc,e1,e2,e3⟩
theorem MoI.step {w wr W1 W2:World} {L M:List Ce} {k:Nat} {c:Ce} {q:Pl} {D:DataW Value} (h:MoI w wr L k M) (hc:L[k]?=some c) (hk:QbR c.n c.s) (ap:L.Pairwise (fun c d=>¬ Qa9 c d))
    (hD:W1.ownsMap Tryz.prog 85 rA w.heap.size k D) (hH:HoldsC D M) (hb:Below wr.heap.size wr W1) (ho:AgO W1 wr.heap.size c.g q)
    (hD2:W2.ownsMap Tryz.prog 85 rA w.heap.size (k+1) (D.put (kL c.n c.s) (Qga ⟨c.n,c.s,c.g,q⟩))) (hg:W1.grownBy W2 (some w.heap.size)):MoI w W2 L (k+1) (M ++ [⟨c.n,c.s,c.g,q⟩]):=by
  have hi:=(ZZd.1 hc).1
  have ac:∀ d∈M,¬ Qa9 d ⟨c.n,c.s,c.g,q⟩:=fun d hd e=>by
    obtain ⟨x,hx,e1,e2,_⟩:=Qcw h.ky hd;obtain ⟨j,hj⟩:=List.mem_iff_getElem?.1 hx
    have aa:j<k:=by
      have:=(ZZd.1 hj).1;simp at this;omega
    rw [List.getElem?_take_of_lt aa] at hj;obtain ⟨af,ab⟩:=ZZd.1 hj;obtain ⟨ae,ad⟩:=ZZd.1 hc;have:=(List.pairwise_iff_getElem.1 ap) j k af ae aa;rw [ab,ad] at this;exact this ⟨e1.trans e.1,e2.trans e.2⟩
  have hp:(⟨c.n,c.s,c.g,q⟩ :: M:List Ce).Perm (M ++ [⟨c.n,c.s,c.g,q⟩]):=(List.perm_append_singleton _ _).symm;have hO:=((h.o.add hb (by have:=h.m.lt;omega) (c:=⟨c.n,c.s,c.g,q⟩) ho).grown hg (Nat.lt_succ_self _)).perm hp;refine ⟨⟨_,hD2,(hH.put_new (hD.tidy keyC) (c:=⟨c.n,c.s,c.g,q⟩) hk ac).perm hp⟩,?_,hO,?_⟩
  · rw [List.map_append,h.ky,List.take_add_one,hc,List.map_append];rfl
  · exact (h.b.trans (hb.mono h.b.size)).grown hg (Nat.le_trans h.b.size hb.size) (fun j hj=>by cases hj;exact ZZa _)
theorem box_ce (w:World) (c:Ce):Below w.heap.size w (w.alloc (.cells (Qap c) 51))/\∀ W,Below (w.alloc (.cells (Qap c) 51)).heap.size (w.alloc (.cells (Qap c) 51)) W->Qcg W w.heap.size 0 c:=
  ⟨(ZZb _ _).alloc (ZZa _) _,fun W hW=>Qai (QfF w _ c) hW⟩
theorem QfX {w:World} {ao:Option Addr} {N ca:Nat} {L:List Ce} (hN:L.length=N) (lN:N<=1048576) (ap:L.Pairwise (fun c d=>¬ Qa9 c d)) (ky:∀ c∈L,QbR c.n c.s) (sm:∀ c∈L,AgSm c.g) (pl:∀ c∈L,PlG c.g c.p) (hA:Qb7 w ao L) :
    Calls Tryz.prog 41 #[.slice ao N ca] w fun e w'=>∃ M,e=.returned (.map (some w.heap.size))/\MpC w' w.heap.size N M/\M.map Ce.key=L.map Ce.key/\CesO w' (w.heap.size+1) M/\Below w.heap.size w w':=by
  have HA:=Qaa hA;have HN:=Qaa hN;have AP:=Qaa ap;have KY:=Qaa ky;have SM:=Qaa sm;have PL:=Qaa pl;have aw:=Qpe;have M0:Hid (MoI w (w.alloc (.map #[] 0)) L 0 []):=(⟨MpC.made w,by simp,CesO.nil _ _,(Below.refl _ _).alloc (Nat.le_refl _) _⟩:MoI w (w.alloc (.map #[] 0)) L 0 []);clear hA hN ap ky sm pl;go_enter Tryz.func41,Tryz.ntmps41;go_wp2
  go_loopw [11] (fun i wr=>∃ (k:Nat) (M:List Ce),k<=N/\i=.int .i64 k/\Hid (MoI w wr L k M)) (fun i wr=>N - (Go.RowKit.intOf i).toNat)
  case atStart=>exact ⟨0,[],ZZj _,rfl,M0⟩
  case round=>
    clear M0;obtain ⟨k,M,hk,rfl,HI⟩:=hrel;by_cases au:k<N
    · obtain ⟨g,av,e,aa⟩:=HA.out.1 (by have:=HN.out;omega)
      obtain ⟨c,hc⟩:∃ c,L[k]?=some c:=⟨L[k]'(by have:=HN.out;omega),ZZe _⟩;subst e;obtain ⟨x0,x1,x2,x3,x4,x5,x6,x7,x8,x9,aj,ah,ai,af,ag⟩:=Qai (Qai (aa k c hc) (ZZb _ _)) (HI.out.b);have hm:=ZZn hc;have HC:=Qaa hc;have KC:=Qaa (KY.out c hm);have SC:=Qaa (SM.out c hm);have PC:=Qaa (PL.out c hm);have AC:=Qaa (Qao (HA.out.2 c hm) HI.out.b);have BX:=box_ce wr c;have ac:=Qaa BX.1;have HX:=Qaa BX.2;have aq:(k:Int)<(N:Int):=by omega
      clear aa hc hm BX;go_wp2_with fail;clear x0 x1 x2 x3 x4 x5 x6 x7 x8 x9 aj ah ai af ag;generalize hW0:wr.alloc (.cells (Qap c) 51)=W0 at ac HX ⊢;clear hW0;have ab:(fun W=>Below W0.heap.size W0 W) W0.drew:=(ZZb _ _).drew;refine Qaj (fun W=>Below W0.heap.size W0 W) 6 (by kernel_rfl) ?_;refine tkS 0 (.map (some w.heap.size)) ab ?_;refine tkL 1 (.agg (Qap c)) ab (fun W hW=>?_) ?_
      · obtain ⟨x0,x1,x2,x3,x4,x5,x6,x7,x8,x9,aj,ah,ai,af,ag⟩:=HX.out W hW
        clear hW;go_simp
      refine tkS 3 (.pointer (some ⟨wr.heap.size,2,none⟩)) ab ?_;simp only [sX];refine tkL 4 (.agg (Qak c.g c.p)) ab (fun W hW=>?_) ?_
      · obtain ⟨x0,x1,x2,x3,x4,x5,x6,x7,x8,x9,aj,ah,ai,af,ag⟩:=HX.out W hW
        clear hW;go_simp
      simp only [sX];refine onE 2 fun K hK=>?_;go_simp;refine (QfA c _).mono ?_;rintro e w1 ⟨rfl,am⟩;have ad:Hid (Below W0.heap.size W0 w1):=(ab:Below W0.heap.size W0 W0.drew).trans (am.mono (ZZa _));clear am;dsimp only;refine gK hK ad.out ?_
      try simp only [sX]
      refine onE 5 fun K hK=>?_;go_simp;refine (QeR SC PC (Qao AC (Qac ac ad))).mono ?_;rintro e w2 ⟨v,o,rfl,rfl,⟨q,rfl,ho⟩,an⟩;have ae:Hid (Below W0.heap.size W0 w2):=Qac ad an;have HO:=Qaa (ho.le (show wr.heap.size<=w1.heap.size from (Qac ac ad).size));clear an ho;dsimp only;refine gK hK ae.out ?_
      try simp only [sX]
      obtain ⟨D,hD,hH⟩:=(HI.out.m.past (Qac ac ae));obtain ⟨W3,ar,al,ak⟩:=hD.update (val:=.agg (Qak c.g q)) (d:=Qga ⟨c.n,c.s,c.g,q⟩) (ps:=[]) keyC Tryz.underlying82 (by unfold maxLen;omega) (QbB KC) rfl;have HF:=Qaa (HI.out.step HC KC AP hD hH (Qac ac ae) HO al ak);clear hD hH al ak;refine onE 6 fun K hK=>?_;go_simp;refine hK.out _ _ (fun h=>absurd rfl h) ?_
      try simp only [sX]
      refine dnE ?_ _;go_wp2;go_roundw
      case rel=>exact ⟨k+1,_,by omega,by go_num,HF⟩
      case measure=>simp [zI];omega
    · have eL:L.take k=L:=List.take_of_length_le (by have:=HN.out;omega)
      obtain rfl:k=N:=by omega
      have HF:Hid (M.map Ce.key=L.map Ce.key):=by have:=HI.out.ky;rw [eL] at this;exact this
      clear eL hk au;go_wp2;go_ret;exact ⟨M,rfl,HI.out.m,HF,HI.out.o,HI.out.b⟩
def isW (win:Int) (c:Ce):Bool:=c.n == win
structure TkS (w:World) (b:Nat) (win:Int) (L:List Ce) (wr:World) (D:DataW Value) (left:Lit->Bool) (cnt n:Nat) (T M R:List Ce):Prop where
  rg:wr.ranges Tryz.prog 85 rA b (w.heap.size+1) n D left cnt
  ho:HoldsC D (M ++ R)
  rc:RgC D left (M ++ R) M R
  mt:MpC wr w.heap.size T.length T
  p:(T ++ (M ++ R)).Perm L
  ty:∀ c∈T,c.n=win
  mn:∀ c∈M,c.n≠win
  g:w.grownBy wr (some b)
def TkI (w:World) (b n:Nat) (win:Int) (L:List Ce) (wr:World):Prop:=∃ D left cnt T M R,TkS w b win L wr D left cnt n T M R
structure TkN (w:World) (b:Nat) (win:Int) (L:List Ce) (W:World) (D:DataW Value) (left':Lit->Bool) (cnt2 n:Nat) (T M R':List Ce) (c:Ce):Prop where
  rg:W.ranges Tryz.prog 85 rA b (w.heap.size+1) n D left' cnt2
  ho:HoldsC D ((M ++ [c]) ++ R')
  rc:RgC D left' ((M ++ [c]) ++ R') (M ++ [c]) R'
  mt:MpC W w.heap.size T.length T
  p:(T ++ ((M ++ [c]) ++ R')).Perm L
  ty:∀ c∈T,c.n=win
  mn:∀ c∈M,c.n≠win
  g:w.grownBy W (some b)
theorem MpC.look_yes {w:World} {b n:Nat} {L:List Ce} {c:Ce} (h:MpC w b n L) (hc:c∈L):(Instr.lookup 82 (.map (some b)) (Qmg c.n c.s) true).run Tryz.prog w=.ok (.tuple #[.agg (Qak c.g c.p),.bool true]) w:=by
  obtain ⟨D,hD,hH⟩:=h;obtain ⟨v,ps,aa,hv⟩:=hD.look_ok (zd:=.held (.agg z13)) (zp:=[]) keyC Tryz.underlying82 (Qnc w) rfl (QbB (hH.wf c hc));rw [hH.some hc] at aa;rw [hH.val c hc] at hv;obtain ⟨cs,rfl⟩:=QnD hv
  have e:(DataW.held (Value.agg cs):DataW Value)=Qga c:=by
    have:=Option.some.inj hv;exact congrArg Prod.fst this
  rw [QlV e] at aa;exact aa
theorem MpC.look_no {w:World} {b n:Nat} {L:List Ce} {m:Int} {s:ByteArray} (h:MpC w b n L) (k:QbR m s) (hn:∀ d∈L,¬ (d.n=m/\d.s=s)):(Instr.lookup 82 (.map (some b)) (Qmg m s) true).run Tryz.prog w=.ok (.tuple #[.agg z13,.bool false]) w:=by
  obtain ⟨D,hD,hH⟩:=h;obtain ⟨v,ps,aa,hv⟩:=hD.look_ok (zd:=.held (.agg z13)) (zp:=[]) keyC Tryz.underlying82 (Qnc w) rfl (QbB k);have hh:=hH.none k hn;rw [hh] at aa;rw [atKey_of_not_has hh] at hv;obtain ⟨cs,rfl⟩:=QnD hv
  have e:(DataW.held (Value.agg cs):DataW Value)=.held (.agg z13):=by
    have:=Option.some.inj hv;exact congrArg Prod.fst this
  injection e with e;injection e with e;rw [e] at aa;exact aa
theorem c_newX {w:World} {k:Int} (h1:1<=k) (h4:k<=4):Calls Tryz.prog 83 #[.int .i64 k] w fun e w'=>e=.returned (.agg (Qak (QaN k) pl0))/\Below w.heap.size w w':=by
  refine (Ql2 k w).mono (fun e w' h=>?_);have e:QaN k=⟨k,0,0,0,0,if k=2 then -1 else 0,0,[],[],0,0,[],[]⟩:=by unfold QaN;rw [if_pos ⟨h1,h4⟩]
  rw [e] at h ⊢;exact h
theorem QnE (w:World) (n:Int) (s:ByteArray):Hid (Below w.heap.size w ((w.alloc (.cells #[.int .i64 n,.string s] 85)).alloc (.cells z13 49)))/\Hid (((w.alloc (.cells #[.int .i64 n,.string s] 85)).alloc (.cells z13 49)).heap[w.heap.size]?=some (.cells #[.int .i64 n,.string s] 85 (0,0)))/\Hid (((w.alloc (.cells #[.int .i64 n,.string s] 85)).alloc (.cells z13 49)).heap[w.heap.size+1]?=some (.cells z13 49 (0,0))):=by
  have a1:∀ (X:World) o,Below X.heap.size X (X.alloc o):=fun X o=>(ZZb _ _).alloc (ZZa _) _;have k0:=ZZk w (.cells #[.int .i64 n,.string s] 85);have k1:=ZZk (w.alloc (.cells #[.int .i64 n,.string s] 85)) (.cells z13 49);simp only [World.size_alloc] at k1;exact ⟨Qaa (Qac (a1 _ _) (a1 _ _)),Qaa (((a1 _ _).block _ (by simp)).trans k0),Qaa k1⟩
theorem Qkw {w:World} {b n:Nat} {L:List Ce} (m:Int) (s:ByteArray) (kind:Int) (h:MpC w b n L) (k:QbR m s) (hn:∀ d∈L,¬ (d.n=m/\d.s=s)) (h1:1<=kind) (h4:kind<=4) :
    Calls Tryz.prog 42 #[.map (some b),Qmg m s,.int .i64 kind] w fun e w'=>e=.returned (.tuple #[.agg (Qak (QaN kind) pl0),.int .i64 0])/\Below w.heap.size w w':=by
  obtain ⟨k0,k1,k2⟩:=QnE w m s;have ab:=(h.past k0).look_no k hn;have x0:=Qay k1 0 rfl;have x1:=Qay k1 1 rfl;clear h k hn;go_enter Tryz.func42,Tryz.ntmps42;go_wp2_with fail;generalize hW0:(w.alloc (.cells #[.int .i64 m,.string s] 85)).alloc (.cells z13 49)=W0 at k0 k1 k2 ab x0 x1 ⊢;clear ab x0 x1 hW0;have a1:Below W0.heap.size W0 (W0.alloc (.cells z13 49)):=(ZZb _ _).alloc (ZZa _) _;have A1:=Qaa a1;clear a1;refine (c_newX h1 h4).mono ?_;rintro e w1 ⟨rfl,aa⟩;have ae:=Qaa (Qac k0 (Qac A1 aa));have k3:=Qaa ((((Qac A1 aa).block _ (ZZc.1 k2).1)).trans k2);obtain ⟨f0,f1,f2,f3,f4,f5,f6,f7,f8,f9,ah,ag,ai⟩:=QcN k3;obtain ⟨y0,y1,y2,y3,y4,y5,y6,y7,y8,y9,af,ad,ac⟩:=Qbt k3;clear aa;go_wp2;refine bodyPost_ret (v:=.tuple #[.agg (Qak (QaN kind) pl0),.int .i64 0]) (by simp [results,Tryz.results42,go_sem,y0,y1,y2,y3,y4,y5,y6,y7,y8,y9,af,ad,ac]) rfl ⟨rfl,?_⟩
  repeat (refine Below.setCell ?_ (by simp) _)
  exact ae.out
theorem Qjj {w:World} {b n:Nat} {L:List Ce} {c:Ce} (kind:Int) (h:MpC w b n L) (hc:c∈L) (hk:c.g.k=kind) :
    Calls Tryz.prog 42 #[.map (some b),Qmg c.n c.s,.int .i64 kind] w fun e w'=>e=.returned (.tuple #[.agg (Qak c.g c.p),.int .i64 0])/\Below w.heap.size w w':=by
  obtain ⟨k0,k1,k2⟩:=QnE w c.n c.s;have aa:=(h.past k0).look_yes hc;have x0:=Qay k1 0 rfl;have x1:=Qay k1 1 rfl;clear h hc;have ah:(c.g.k != kind)=false:=by simp [hk]
  clear hk;obtain ⟨f0,f1,f2,f3,f4,f5,f6,f7,f8,f9,ac,ag,ad⟩:=QcN k2;obtain ⟨y0,y1,y2,y3,y4,y5,y6,y7,y8,y9,ae,ab,af⟩:=Qbt k2;go_enter Tryz.func42,Tryz.ntmps42;go_wp2;refine bodyPost_ret (v:=.tuple #[.agg (Qak c.g c.p),.int .i64 0]) (by simp [results,Tryz.results42,go_sem]) rfl ⟨rfl,?_⟩
  first
    | exact (k0.out.alloc (by simp <;> omega) _)
    | (repeat (first | refine Below.setCell ?_ (by simp) _ | refine Below.alloc ?_ (by simp <;> omega) _)
       exact ZZb _ _)
theorem Qjz {w:World} {b n:Nat} {L:List Ce} {c:Ce} (kind:Int) (h:MpC w b n L) (hc:c∈L) (hk:¬ c.g.k=kind) :
    Calls Tryz.prog 42 #[.map (some b),Qmg c.n c.s,.int .i64 kind] w fun e w'=>e=.returned (.tuple #[.agg z13,.int .i64 9])/\Below w.heap.size w w':=by
  obtain ⟨k0,k1,k2⟩:=QnE w c.n c.s;have aa:=(h.past k0).look_yes hc;have x0:=Qay k1 0 rfl;have x1:=Qay k1 1 rfl;clear h hc;have ah:(c.g.k != kind)=true:=by simp [hk]
  clear hk;obtain ⟨f0,f1,f2,f3,f4,f5,f6,f7,f8,f9,ac,ag,ad⟩:=QcN k2;obtain ⟨y0,y1,y2,y3,y4,y5,y6,y7,y8,y9,ae,ab,af⟩:=Qbt k2;go_enter Tryz.func42,Tryz.ntmps42;go_wp2;refine bodyPost_ret (v:=.tuple #[.agg z13,.int .i64 9]) (by simp [results,Tryz.results42,go_sem]) rfl ⟨rfl,?_⟩
  first
    | exact (k0.out.alloc (by simp <;> omega) _)
    | (repeat (first | refine Below.setCell ?_ (by simp) _ | refine Below.alloc ?_ (by simp <;> omega) _)
       exact ZZb _ _)
end Go.Proofs.YtandnmpllheniaaGreatDoor
