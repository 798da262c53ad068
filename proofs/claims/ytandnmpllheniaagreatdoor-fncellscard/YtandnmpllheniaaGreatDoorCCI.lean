/-
 Parts.
-/
import Derived.Test.YtandnmpllheniaaGreatDoorCCH
set_option linter.all false
namespace Go.Proofs.YtandnmpllheniaaGreatDoor
open Go.ChangeShapes Go.WideShapes Go.ChangeAt Go.RowKit Go.PlainAid Go.Lib Go.Shelf Go.Maps
open Go.Sort hiding Below
set_option maxRecDepth 10000
theorem Qn2 (fv:Value) (w:World):Calls Tryz.prog 164 #[.slice none 0 0,.int .i64 0,.int .i64 0,fv] w fun e w'=>e=.returned (.tuple #[])/\w'=w:=by
 go_enter Tryz.func164,Tryz.ntmps164;go_wp2;refine wp_loop_rounds 1 ?_;rw [rounds_succ];go_wp2
 go_end0
 exact ⟨rfl,rfl⟩
theorem Qnz (lim:Int) (fv:Value) (w:World):Calls Tryz.prog 129 #[.slice none 0 0,.int .i64 0,.int .i64 0,.int .i64 lim,fv] w fun e w'=>e=.returned (.tuple #[])/\w'=w:=by
 go_enter Tryz.func129,Tryz.ntmps129;go_wp2;refine wp_loop_rounds 1 ?_;rw [rounds_succ];go_wp2_with (go_at_call 164;refine (Qn2 _ _).mono ?_;rintro e w' ⟨rfl,hw⟩;obtain rfl:=hw.symm)
 (try simp only [Exit.inBlock,Exit.then])
 refine bodyPost_ret (results_none rfl _ _ _) rfl ?_;exact ⟨rfl,rfl⟩
theorem Qmu (w:World):Calls Tryz.prog 130 #[.int .u64 0] w fun e w'=>(∃ l,e=.returned (.int .i64 l))/\w'=w:=by
 go_enter Tryz.func130,Tryz.ntmps130;go_wp2;go_ret;exact ⟨⟨_,rfl⟩,rfl⟩
theorem Ql5 (fv:Value) (w:World):Calls Tryz.prog 88 #[.slice none 0 0,fv] w fun e w'=>e=.returned (.tuple #[])/\w'=w:=by
 go_enter Tryz.func88,Tryz.ntmps88
 go_wp2_with (first
  | (go_at_call 130;refine (Qmu _).mono ?_;rintro e w' ⟨⟨l,rfl⟩,hw⟩;obtain rfl:=hw.symm)
  | (go_at_call 129;refine (Qnz _ _ _).mono ?_;rintro e w' ⟨rfl,hw⟩;obtain rfl:=hw.symm))
 go_end0
 exact ⟨rfl,rfl⟩
def LiI (w:World) (b:Nat) (L:List Ce) (v:Value) (wr:World):Prop:=
 ∃ (D:DataW Value) (left:Lit->Bool) (cnt n:Nat) (M R:List Ce),wr.ranges Tryz.prog 85 rA b w.heap.size n D left cnt/\HoldsC D L/\RgC D left L M R/\OwnC wr (w.heap.size+1) v M/\Below w.heap.size w wr
theorem QpS {n n':Int} {s s':ByteArray} (h:Qmg n s=Qmg n' s'):n=n'/\s=s':=by
 injection h with q;have q:=congrArg Array.toList q;simp at q;exact q
theorem QlV {cs:Array Value} {c:Ce} (h:(DataW.held (Value.agg cs):DataW Value)=Qga c):cs=Qak c.g c.p:=by
 injection h with q;injection q
theorem box_ka (w:World) (n:Int) (s:ByteArray) (g:Ag) (p:Pl):Hid (Below w.heap.size w ((w.alloc (.cells #[.int .i64 n,.string s] 85)).alloc (.cells (Qak g p) 49)))/\Hid (((w.alloc (.cells #[.int .i64 n,.string s] 85)).alloc (.cells (Qak g p) 49)).heap[w.heap.size]?=some (.cells #[.int .i64 n,.string s] 85 (0,0)))/\Hid (((w.alloc (.cells #[.int .i64 n,.string s] 85)).alloc (.cells (Qak g p) 49)).heap[w.heap.size+1]?=some (.cells (Qak g p) 49 (0,0))):=by
 have a1:∀ (X:World) o,Below X.heap.size X (X.alloc o):=fun X o=>(ZZb _ _).alloc (ZZa _) _;have k0:=ZZk w (.cells #[.int .i64 n,.string s] 85);have k1:=ZZk (w.alloc (.cells #[.int .i64 n,.string s] 85)) (.cells (Qak g p) 49);simp only [World.size_alloc] at k1;exact ⟨Qaa (Qac (a1 _ _) (a1 _ _)),Qaa (((a1 _ _).block _ (by simp)).trans k0),Qaa k1⟩
theorem Ql4 {a b c:Ce} (h:cAh a b=false) (k:cAh b c=false):cAh a c=false:=by
 unfold cAh at *;simp only [Bool.or_eq_false_iff,Bool.and_eq_false_iff,decide_eq_false_iff_not,beq_eq_false_iff_ne] at *;refine ⟨by omega,?_⟩;by_cases e:a.n=c.n
 ·have e1:a.n=b.n:=by omega
  have e2:b.n=c.n:=by omega
  exact .inr (QkC (k.2.resolve_left (fun q=>q e2)) (h.2.resolve_left (fun q=>q e1)))
 ·exact .inl e
theorem swoCe:SWO (ltOf cfC):=by
 have e:ltOf cfC=cAh:=by funext x y;exact Qp6 x y
 rw [e];exact ⟨QeC,fun a b c=>Qdz,fun a b c=>Ql4⟩
theorem QmA {L M:List Ce} {d:Array Ce} (hL:AscC L) (hp:M.Perm L) (p:PermIn 0 M.length M.toArray d) (hs:SortedIn (ltOf cfC) 0 M.length d):d.toList=L/\d.size=M.length:=by
 obtain ⟨hz,_,ab⟩:=p;have aa:d.size=M.length:=by simpa using hz
 have e1:d.extract 0 M.length=d:=by rw [<- aa];simp
 have e2:M.toArray.extract 0 M.length=M.toArray:=by simp
 rw [e1,e2] at ab;have pL:d.toList.Perm L:=ab.trans (by simpa using hp);rw [<- aa] at hs;have ap:d.toList.Pairwise (fun c e=>¬ Qa9 c e):=(pL.symm.pairwise_iff (fun {a b} (q:¬ Qa9 a b)=>fun e=>q ⟨e.1.symm,e.2.symm⟩)).1 hL.ap;exact ⟨QmJ (Qiq hs ap) hL pL,aa⟩
theorem eg_cmp:∀ args w,(callFunc 65 args).run Tryz.prog w=.ok (.enter 65 args) w:=enters_of Tryz.func65 (by kernel_rfl) rfl
theorem QjR {w:World} {B:Nat} {v:Value} {L M:List Ce} (hL:AscC L) (hp:M.Perm L) (lM:M.length<=1048576) (h:OwnC w B v M) :
  Calls Tryz.prog 88 #[v,.func (.func 65) #[] #[]] w fun e w'=>e=.returned (.tuple #[])/\OwnC w' B v L/\Below B w w'/\w.grownBy w' v.ownBlock:=by
 rcases h.2 with ⟨rfl,q⟩ | ⟨g,af,ag,rfl,q1,q2,q3⟩
 ·have e0:M=[]:=List.eq_nil_of_length_eq_zero q
  subst e0
  obtain rfl:L=[]:=by
   have:=hp.length_eq;exact List.eq_nil_of_length_eq_zero (by simpa using this.symm)
  refine (Ql5 _ w).mono ?_;rintro e w' ⟨rfl,rfl⟩;exact ⟨rfl,h,ZZb _ _,World.grownBy.refl _ _⟩
 ·have ab:g<w.heap.size:=(ZZc.1 q2).1
  have hH:=Qla h;have aa:=AnyQ.slices_SortFunc (α:=Ce) Tryz.laysSort 15 Tryz.isAgg51 Tryz.sizeOf51 ceL QcC Qdi cfC swoCe 65 #[] g 0 af M.toArray w eg_cmp (fun _ _ _ _ x y=>(QgK x y).mono (fun e w' q=>⟨q.1,q.2.to⟩)) hH ab (by simp;omega);have ac:M.toArray.size=M.length:=by simp
  rw [ac] at aa
  change Calls Tryz.prog 88 _ _ _ at aa
  refine aa.mono ?_;rintro e w' ⟨rfl,d',n,os,ad,ae,rfl⟩;obtain ⟨e1,e2⟩:=QmA hL hp ad ae;have ho:=Qpp (n:=n) (os:=os) h e2 ab;rw [e1] at ho;have hl:L.length=M.length:=by rw [<- e1,Array.length_toList,e2]
  rw [hl] at ho;have hg:=Qj7 w g 0 n d' os;exact ⟨rfl,ho,(ZZb B w).grown hg (Nat.le_trans q1 (Nat.le_of_lt ab)) (fun j hj=>by cases hj;exact q1),hg⟩
theorem QjD:∃ i0,Tryz.prog.info? 51=some i0/\i0.zero=some (.agg Qch)/\i0.size=15/\i0.bytes=192:=by
 obtain ⟨i0,h1,h2,h3,h4⟩:=info_parts QoP;exact ⟨i0,h1,h2,h3,h4⟩
theorem Qrf (key:Value) (kl:Lit) (h:keyOf Tryz.prog 85 key=some kl):∃ x:Int×ByteArray,key=Qmg x.1 x.2:=by
 obtain ⟨n,s,e,_⟩:=Qji h;exact ⟨(n,s),e⟩
theorem Qb2 {W:World} {c:Ce} {t:TypeId} (j:Nat) (u:Value) (hj:(ceL c)[j]?=some u):(W.alloc (.cells (Qap c) t)).cell? ((⟨W.heap.size,0,none⟩:Addr).add j)=some u:=by
 have hb:(W.alloc (.cells (Qap c) t)).heap[W.heap.size]?=some (.cells (Qap c) t (0,0)):=ZZk W _;rw [Addr.add_lit,Nat.zero_add,cell_of_row _ W.heap.size j _ _ (0,0) hb]
 simpa [ceL] using hj
theorem Qos {w wr w2:World} {b n cnt cnt2:Nat} {D:DataW Value} {left left':Lit->Bool} {L M R R':List Ce} {u:Value} {c:Ce} (hrg:wr.ranges Tryz.prog 85 rA b w.heap.size n D left cnt) (hho:HoldsC D L) (hbs:b<w.heap.size) (how:OwnC wr (w.heap.size+1) u M) (hbl:Below w.heap.size w wr) (lL:L.length<=1048576)
  (hrc:RgC D left L M R) (hrc':RgC D left' L (M ++ [c]) R') (hrg2:w2.ranges Tryz.prog 85 rA b w.heap.size n D left' cnt2) (hlt:cnt2<cnt) (hg2:wr.grownBy w2 (some w.heap.size)) (W3:World) (hb3:Below w2.heap.size w2 W3) :
  OwnC W3 (w.heap.size+1) u M/\M.length<=1048576/\w.heap.size+1<=W3.heap.size/\∀ v' w1 T,T=51->w1.ownsRow (w.heap.size+1) T 15 v' (M.length+1) (flC M ++ ceL c)->(W3.alloc (.cells (Qap c) T)).grownBy w1 u.ownBlock->LiI w b L v' w1/\w1.rangeLeft b w.heap.size<wr.rangeLeft b w.heap.size:=by
 have o2:OwnC w2 (w.heap.size+1) u M:=World.ownsRow.kept how hg2 (by
  cases q:u.ownBlock with
  | none=>exact .inl rfl
  | some j=>exact .inr (fun e=>by
    have:=(World.ownsRow.lt how j q).1;injection e with e;omega))
 have o3:=o2.past hb3
 have lM:M.length<=1048576:=by
  have:=hrc.p.length_eq;simp at this;omega
 have hr:=hrg2.lt;have z3:=hb3.size;refine ⟨o3,lM,by omega,fun v' w1 T hT hown hgr=>?_⟩;subst hT;have aa:Below w2.heap.size w2 (W3.alloc (.cells (Qap c) 51)):=hb3.alloc z3 _;have ad:w2.grownBy (W3.alloc (.cells (Qap c) 51)) none:=⟨aa.os,aa.tape,aa.output,aa.size,fun i hi _=>aa.block i hi⟩;have ub:∀ j,u.ownBlock=some j->w.heap.size+1<=j:=fun j q=>(World.ownsRow.lt how j q).1;have r1:=(hrg2.kept ad (by simp) (by simp)).kept hgr (fun e=>by have:=ub b e.symm;omega) (fun e=>by have:=ub _ e.symm;omega);have ac:Below w.heap.size w w2:=hbl.grown hg2 hbl.size (fun j hj=>by cases hj;exact ZZa _);have ab:Below w.heap.size w (W3.alloc (.cells (Qap c) 51)):=ac.trans (aa.mono ac.size);refine ⟨⟨D,left',cnt2,n,M ++ [c],R',r1,hho,hrc',?_,ab.grown hgr ab.size (fun j hj=>Nat.le_of_succ_le (ub j hj))⟩,?_⟩
 ·show w1.ownsRow _ _ _ _ _ _
  rw [List.length_append,QeI,QiH];exact hown
 ·rw [r1.left_eq,hrg.left_eq];exact hlt
set_option maxHeartbeats 8000000 in
theorem Qp1 {w:World} {b n:Nat} {L:List Ce} (hM:MpC w b n L) (hL:AscC L) (lL:L.length<=1048576) :
  Calls Tryz.prog 44 #[.map (some b)] w fun e w'=>∃ v,e=.returned v/\OwnC w' w.heap.size v L/\Below w.heap.size w w':=by
 obtain ⟨i0,hi,a0,aU,a8⟩:=QjD;obtain ⟨D,ad,ae⟩:=hM
 have H0:Hid (∀ w0:World,w0.ranges Tryz.prog 85 rA b w.heap.size n D (Maps.has D) (Maps.size D)->w.grownBy w0 none->LiI w b L (.slice none 0 0) w0):=fun w0 q1 q2=>
  ⟨D,_,_,n,[],L,q1,ae,RgC.start ae,OwnC.nil _ _,(ZZb _ w).grown q2 (ZZa _) (fun j hj=>by cases hj)⟩
 have HD:=Qaa ad;have HL:=Qaa hL;have LL:=Qaa lL;have aJ:=ad.lt;have a4:=Qaa aJ;clear ad ae hL lL aJ;go_enter Tryz.func44,Tryz.ntmps44;go_wp2_with (at_range;refine wpList_range_own _ rfl _ 82 rfl 85 49 keyC Tryz.underlying82 _ b n _ rfl HD ?_;intro w0 ah aD aQ;have HI:=Qaa (H0.out w0 ah aD);clear ah aD aQ)
 go_frame
 go_loopw [3] (fun v wr=>Hid (LiI w b L v wr)) (fun _ wr=>wr.rangeLeft b w.heap.size)
 case atStart=>exact HI
 case round=>
  clear HI H0 HD;obtain ⟨D,aX,bb,n,M,R,aF,aE,aB,az,ai⟩:=hrel.out;have av:=Qaa aF;have ar:=Qaa aE;have am:=Qaa aB;have al:=Qaa az;have ao:=Qaa ai;clear hrel aF aE aB az ai;go_wp2_with (at_next;refine wpList_next_ranges _ rfl _ rfl 85 keyC rA (fun x:Int×ByteArray=>Qmg x.1 x.2) Value.agg Qrf (fun v y hv=>QnD hv) b w.heap.size n _ _ _ rfl av ?_ ?_)
  ·intro a9 aH
   have au:=am.out.done aH;have aA:M.length<=1048576:=by rw [au.length_eq];exact LL.out
   have aj:=QjR HL au aA al;have HC:=Qaa aj;clear a9 aH au aA aj;go_wp2_with (go_at_call 88;refine HC.out.mono ?_;rintro e w1 ⟨rfl,aG,a5,aI⟩;have HF:=Qaa (And.intro aG (ao.out.grown aI (Nat.le_trans (ZZa _) ao.out.size) (fun j hj=>Nat.le_of_succ_le (World.ownsRow.lt al j hj).1)));clear aG a5 aI);go_ret;exact ⟨_,rfl,HF.out.1.le (Nat.le_succ _),HF.out.2⟩
  ·intro xn xs cs kl y1 y2 w2 aR af ax hv ay ag aw aC aL ba
   obtain ⟨n',s',ek,rfl,aK⟩:=Qji af;obtain ⟨e1,e2⟩:=QpS ek;subst e1;subst e2;have hy:y1=.held (.agg cs):=by cases hv;rfl
   obtain ⟨c,q1,q2,q3,R',a1,ak⟩:=am.out.next ar aK ax ay;rw [hy] at q3;obtain rfl:=QlV q3;subst q1;subst q2;have HN:=Qaa (Qos av ar a4 al ao LL am ak ag aw aC);obtain ⟨k1,k2,k3⟩:=box_ka w2 c.n c.s c.g c.p;have aV:=Qad k2 0 rfl;have aW:=Qad k2 1 rfl;obtain ⟨a3,aS,aY,aM,a7,a2,aN,a6,aP,aT,aq,ap,an⟩:=Qbt k3;clear af ax hv ay ag aw aC aL ek aK hy q3 a1 ak k2 k3 am ar al;go_upto_region 5 with fail;have ac:=Qaa (HN.out _ k1);clear HN k1;generalize (w2.alloc (.cells #[.int .i64 c.n,.string c.s] 85)).alloc (.cells (Qak c.g c.p) 49)=W3 at ac aV aW a3 aS aY aM a7 a2 aN a6 aP aT aq ap an ⊢;go_wp2_with (at_builtin;refine wpList_append_own _ rfl _ _ 23 rfl (w.heap.size+1) 51 i0 (.agg Qch) 15 192 Tryz.underlying23 hi a0 aU a8 rfl (by decide) _ _ _ rfl (World.ownsRow.alloc ac.out.1 _) ⟨W3.heap.size,0,none⟩ 1 1 (ceL c) rfl rfl ?c1 ?c2 ?c3 ?c4 ?c5 ?_)
   case c1=>exact Qb2
   case c2=>exact Qdi c
   case c3=>have:=ac.out.2.1;unfold maxLen;omega
   case c4=>have:=ac.out.2.1;omega
   case c5=>have:=ac.out.2.2.1;simp;omega
   intro v' w1 aa ab _;obtain ⟨f1,f2⟩:=ac.out.2.2.2 _ _ _ rfl aa ab;have aO:=Qaa f1;have aZ:=Qaa f2;clear aa ab f1 f2 ac;go_wp2;go_roundw
   case rel=>exact aO
   case measure=>exact aZ.out
end Go.Proofs.YtandnmpllheniaaGreatDoor
