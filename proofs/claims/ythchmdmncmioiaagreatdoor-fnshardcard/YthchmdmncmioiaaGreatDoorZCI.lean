/-
 list of the program: the cells of a map, in order.
-/
import Derived.Test.YthchmdmncmioiaaGreatDoorZCH
namespace Go.Proofs.YthchmdmncmioiaaGreatDoor
set_option linter.unusedVariables false
set_option linter.unusedSimpArgs false
open Go.ChangeShapes Go.WideShapes Go.ChangeAt Go.RowKit Go.PlainAid Go.Lib Go.Shelf Go.Maps
open Go.Sort hiding Below
set_option maxRecDepth 10000
theorem Qmb (fv:Value) (w:World):Calls Tryz.prog 164 #[.slice none 0 0,.int .i64 0,.int .i64 0,fv] w fun e w'=>e=.returned (.tuple #[])/\w'=w:=by
 go_enter Tryz.func164,Tryz.ntmps164;go_wp2;refine wp_loop_rounds 1 ?_;rw [rounds_succ];go_wp2
 go_end0
 exact ⟨rfl,rfl⟩
theorem QnJ (lim:Int) (fv:Value) (w:World):Calls Tryz.prog 129 #[.slice none 0 0,.int .i64 0,.int .i64 0,.int .i64 lim,fv] w fun e w'=>e=.returned (.tuple #[])/\w'=w:=by
 go_enter Tryz.func129,Tryz.ntmps129;go_wp2;refine wp_loop_rounds 1 ?_;rw [rounds_succ];go_wp2_with (go_at_call 164;refine (Qmb _ _).mono ?_;rintro e w' ⟨rfl,hw⟩;obtain rfl:=hw.symm)
 (try simp only [Exit.inBlock,Exit.then])
 refine bodyPost_ret (results_none rfl _ _ _) rfl ?_;exact ⟨rfl,rfl⟩
theorem QlU (w:World):Calls Tryz.prog 130 #[.int .u64 0] w fun e w'=>(∃ l,e=.returned (.int .i64 l))/\w'=w:=by
 go_enter Tryz.func130,Tryz.ntmps130;go_wp2;go_ret;exact ⟨⟨_,rfl⟩,rfl⟩
theorem Qls (fv:Value) (w:World):Calls Tryz.prog 88 #[.slice none 0 0,fv] w fun e w'=>e=.returned (.tuple #[])/\w'=w:=by
 go_enter Tryz.func88,Tryz.ntmps88
 go_wp2_with (first
  | (go_at_call 130;refine (QlU _).mono ?_;rintro e w' ⟨⟨l,rfl⟩,hw⟩;obtain rfl:=hw.symm)
  | (go_at_call 129;refine (QnJ _ _ _).mono ?_;rintro e w' ⟨rfl,hw⟩;obtain rfl:=hw.symm))
 go_end0
 exact ⟨rfl,rfl⟩
def LiI (w:World) (b:Nat) (L:List Ce) (v:Value) (wr:World):Prop:=
 ∃ (D:DataW Value) (left:Lit->Bool) (cnt n:Nat) (M R:List Ce),wr.ranges Tryz.prog 85 rA b w.heap.size n D left cnt/\HoldsC D L/\RgC D left L M R/\OwnC wr (w.heap.size+1) v M/\Below w.heap.size w wr
theorem Qkv {n n':Int} {s s':ByteArray} (h:Qkp n s=Qkp n' s'):n=n'/\s=s':=by
 injection h with q;have q:=congrArg Array.toList q;simp at q;exact q
theorem QhO {cs:Array Value} {c:Ce} (h:(DataW.held (Value.agg cs):DataW Value)=QeG c):cs=Qal c.g c.p:=by
 injection h with q;injection q
theorem Qpa (w:World) (n:Int) (s:ByteArray) (g:Ag) (p:Pl):Hid (Below w.heap.size w ((w.alloc (.cells #[.int .i64 n,.string s] 85)).alloc (.cells (Qal g p) 49)))/\Hid (((w.alloc (.cells #[.int .i64 n,.string s] 85)).alloc (.cells (Qal g p) 49)).heap[w.heap.size]?=some (.cells #[.int .i64 n,.string s] 85 (0,0)))/\Hid (((w.alloc (.cells #[.int .i64 n,.string s] 85)).alloc (.cells (Qal g p) 49)).heap[w.heap.size+1]?=some (.cells (Qal g p) 49 (0,0))):=by
 have a1:∀ (X:World) o,Below X.heap.size X (X.alloc o):=fun X o=>(ZZb _ _).alloc (ZZa _) _;have k0:=ZZk w (.cells #[.int .i64 n,.string s] 85);have k1:=ZZk (w.alloc (.cells #[.int .i64 n,.string s] 85)) (.cells (Qal g p) 49);simp only [World.size_alloc] at k1;exact ⟨Qaa (Qad (a1 _ _) (a1 _ _)),Qaa (((a1 _ _).block _ (by simp)).trans k0),Qaa k1⟩
theorem QlV {a b c:Ce} (h:cAh a b=false) (k:cAh b c=false):cAh a c=false:=by
 unfold cAh at *;simp only [Bool.or_eq_false_iff,Bool.and_eq_false_iff,decide_eq_false_iff_not,beq_eq_false_iff_ne] at *;refine ⟨by omega,?_⟩;by_cases e:a.n=c.n
 ·have e1:a.n=b.n:=by omega
  have e2:b.n=c.n:=by omega
  exact .inr (QjY (k.2.resolve_left (fun q=>q e2)) (h.2.resolve_left (fun q=>q e1)))
 ·exact .inl e
theorem swoCe:SWO (ltOf cfC):=by
 have e:ltOf cfC=cAh:=by funext x y;exact QpC x y
 rw [e];exact ⟨Qd1,fun a b c=>Qdw,fun a b c=>QlV⟩
theorem QlQ {L M:List Ce} {d:Array Ce} (hL:AscC L) (hp:M.Perm L) (p:PermIn 0 M.length M.toArray d) (hs:SortedIn (ltOf cfC) 0 M.length d):d.toList=L/\d.size=M.length:=by
 obtain ⟨hz,_,hpm⟩:=p;have hz':d.size=M.length:=by simpa using hz
 have e1:d.extract 0 M.length=d:=by rw [<- hz'];simp
 have e2:M.toArray.extract 0 M.length=M.toArray:=by simp
 rw [e1,e2] at hpm;have pL:d.toList.Perm L:=hpm.trans (by simpa using hp);rw [<- hz'] at hs;have ap:d.toList.Pairwise (fun c e=>¬ QaT c e):=(pL.symm.pairwise_iff (fun {a b} (q:¬ QaT a b)=>fun e=>q ⟨e.1.symm,e.2.symm⟩)).1 hL.ap;exact ⟨Qnb (QhR hs ap) hL pL,hz'⟩
theorem eg_cmp:∀ args w,(callFunc 65 args).run Tryz.prog w=.ok (.enter 65 args) w:=enters_of Tryz.func65 (by kernel_rfl) rfl
theorem Qjp {w:World} {B:Nat} {v:Value} {L M:List Ce} (hL:AscC L) (hp:M.Perm L) (lM:M.length<=1048576) (h:OwnC w B v M) :
  Calls Tryz.prog 88 #[v,.func (.func 65) #[] #[]] w fun e w'=>e=.returned (.tuple #[])/\OwnC w' B v L/\Below B w w'/\w.grownBy w' v.ownBlock:=by
 rcases h.2 with ⟨rfl,q⟩ | ⟨g,cap,cur,rfl,q1,q2,q3⟩
 ·have e0:M=[]:=List.eq_nil_of_length_eq_zero q
  subst e0
  obtain rfl:L=[]:=by
   have:=hp.length_eq;exact List.eq_nil_of_length_eq_zero (by simpa using this.symm)
  refine (Qls _ w).mono ?_;rintro e w' ⟨rfl,rfl⟩;exact ⟨rfl,h,ZZb _ _,World.grownBy.refl _ _⟩
 ·have hgs:g<w.heap.size:=(ZZc.1 q2).1
  have hH:=Qku h;have hcon:=AnyQ.slices_SortFunc (α:=Ce) Tryz.laysSort 15 Tryz.isAgg51 Tryz.sizeOf51 ceL Qdq Qcx cfC swoCe 65 #[] g 0 cap M.toArray w eg_cmp (fun _ _ _ _ x y=>(Qgk x y).mono (fun e w' q=>⟨q.1,q.2.to⟩)) hH hgs (by simp;omega);have hsz:M.toArray.size=M.length:=by simp
  rw [hsz] at hcon
  change Calls Tryz.prog 88 _ _ _ at hcon
  refine hcon.mono ?_;rintro e w' ⟨rfl,d',n,os,hpm,hst,rfl⟩;obtain ⟨e1,e2⟩:=QlQ hL hp hpm hst;have ho:=Qn6 (n:=n) (os:=os) h e2 hgs;rw [e1] at ho;have hl:L.length=M.length:=by rw [<- e1,Array.length_toList,e2]
  rw [hl] at ho;have hg:=Qjj w g 0 n d' os;exact ⟨rfl,ho,(ZZb B w).grown hg (Nat.le_trans q1 (Nat.le_of_lt hgs)) (fun j hj=>by cases hj;exact q1),hg⟩
theorem QiS:∃ i0,Tryz.prog.info? 51=some i0/\i0.zero=some (.agg Qcs)/\i0.size=15/\i0.bytes=192:=by
 obtain ⟨i0,h1,h2,h3,h4⟩:=info_parts Qoj;exact ⟨i0,h1,h2,h3,h4⟩
theorem Qmn (key:Value) (kl:Lit) (h:keyOf Tryz.prog 85 key=some kl):∃ x:Int×ByteArray,key=Qkp x.1 x.2:=by
 obtain ⟨n,s,e,_⟩:=QfW h;exact ⟨(n,s),e⟩
theorem Qbz {W:World} {c:Ce} {t:TypeId} (j:Nat) (u:Value) (hj:(ceL c)[j]?=some u):(W.alloc (.cells (Qao c) t)).cell? ((⟨W.heap.size,0,none⟩:Addr).add j)=some u:=by
 have hb:(W.alloc (.cells (Qao c) t)).heap[W.heap.size]?=some (.cells (Qao c) t (0,0)):=ZZk W _;rw [Addr.add_lit,Nat.zero_add,cell_of_row _ W.heap.size j _ _ (0,0) hb]
 simpa [ceL] using hj
theorem QnC {w wr w2:World} {b n cnt cnt2:Nat} {D:DataW Value} {left left':Lit->Bool} {L M R R':List Ce} {u:Value} {c:Ce} (hrg:wr.ranges Tryz.prog 85 rA b w.heap.size n D left cnt) (hho:HoldsC D L) (hbs:b<w.heap.size) (how:OwnC wr (w.heap.size+1) u M) (hbl:Below w.heap.size w wr) (lL:L.length<=1048576)
  (hrc:RgC D left L M R) (hrc':RgC D left' L (M ++ [c]) R') (hrg2:w2.ranges Tryz.prog 85 rA b w.heap.size n D left' cnt2) (hlt:cnt2<cnt) (hg2:wr.grownBy w2 (some w.heap.size)) (W3:World) (hb3:Below w2.heap.size w2 W3) :
  OwnC W3 (w.heap.size+1) u M/\M.length<=1048576/\w.heap.size+1<=W3.heap.size/\∀ v' w1 T,T=51->w1.ownsRow (w.heap.size+1) T 15 v' (M.length+1) (flC M ++ ceL c)->(W3.alloc (.cells (Qao c) T)).grownBy w1 u.ownBlock->LiI w b L v' w1/\w1.rangeLeft b w.heap.size<wr.rangeLeft b w.heap.size:=by
 have o2:OwnC w2 (w.heap.size+1) u M:=World.ownsRow.kept how hg2 (by
  cases q:u.ownBlock with
  | none=>exact .inl rfl
  | some j=>exact .inr (fun e=>by
    have:=(World.ownsRow.lt how j q).1;injection e with e;omega))
 have o3:=o2.past hb3
 have lM:M.length<=1048576:=by
  have:=hrc.p.length_eq;simp at this;omega
 have hr:=hrg2.lt;have z3:=hb3.size;refine ⟨o3,lM,by omega,fun v' w1 T hT hown hgr=>?_⟩;subst hT;have hb4:Below w2.heap.size w2 (W3.alloc (.cells (Qao c) 51)):=hb3.alloc z3 _;have hg4:w2.grownBy (W3.alloc (.cells (Qao c) 51)) none:=⟨hb4.os,hb4.tape,hb4.output,hb4.size,fun i hi _=>hb4.block i hi⟩;have ub:∀ j,u.ownBlock=some j->w.heap.size+1<=j:=fun j q=>(World.ownsRow.lt how j q).1;have r1:=(hrg2.kept hg4 (by simp) (by simp)).kept hgr (fun e=>by have:=ub b e.symm;omega) (fun e=>by have:=ub _ e.symm;omega);have bl2:Below w.heap.size w w2:=hbl.grown hg2 hbl.size (fun j hj=>by cases hj;exact ZZa _);have bl4:Below w.heap.size w (W3.alloc (.cells (Qao c) 51)):=bl2.trans (hb4.mono bl2.size);refine ⟨⟨D,left',cnt2,n,M ++ [c],R',r1,hho,hrc',?_,bl4.grown hgr bl4.size (fun j hj=>Nat.le_of_succ_le (ub j hj))⟩,?_⟩
 ·show w1.ownsRow _ _ _ _ _ _
  rw [List.length_append,QhX,Qji];exact hown
 ·rw [r1.left_eq,hrg.left_eq];exact hlt
set_option maxHeartbeats 8000000 in
theorem Qj4 {w:World} {b n:Nat} {L:List Ce} (hM:MpC w b n L) (hL:AscC L) (lL:L.length<=1048576) :
  Calls Tryz.prog 44 #[.map (some b)] w fun e w'=>∃ v,e=.returned v/\OwnC w' w.heap.size v L/\Below w.heap.size w w':=by
 obtain ⟨i0,hi,hz0,hz1,hz2⟩:=QiS;obtain ⟨D,hown,hold⟩:=hM
 have H0:Hid (∀ w0:World,w0.ranges Tryz.prog 85 rA b w.heap.size n D (Maps.has D) (Maps.size D)->w.grownBy w0 none->LiI w b L (.slice none 0 0) w0):=fun w0 q1 q2=>
  ⟨D,_,_,n,[],L,q1,hold,RgC.start hold,OwnC.nil _ _,(ZZb _ w).grown q2 (ZZa _) (fun j hj=>by cases hj)⟩
 have HD:=Qaa hown;have HL:=Qaa hL;have LL:=Qaa lL;have hbs:=hown.lt;have HBS:=Qaa hbs;clear hown hold hL lL hbs;go_enter Tryz.func44,Tryz.ntmps44;go_wp2_with (at_range;refine wpList_range_own _ rfl _ 82 rfl 85 49 keyC Tryz.underlying82 _ b n _ rfl HD.out ?_;intro w0 hrg0 hg0 hs0;have HI:=Qaa (H0.out w0 hrg0 hg0);clear hrg0 hg0 hs0)
 go_frame
 go_loopw [3] (fun v wr=>Hid (LiI w b L v wr)) (fun _ wr=>wr.rangeLeft b w.heap.size)
 case atStart=>exact HI
 case round=>
  clear HI H0 HD;obtain ⟨D,left,cnt,n,M,R,hrg,hho,hrc,how,hbel⟩:=hrel.out;have HRg:=Qaa hrg;have HHo:=Qaa hho;have HRc:=Qaa hrc;have HOw:=Qaa how;have HBl:=Qaa hbel;clear hrel hrg hho hrc how hbel;go_wp2_with (at_next;refine wpList_next_ranges _ rfl _ rfl 85 keyC rA (fun x:Int×ByteArray=>Qkp x.1 x.2) Value.agg Qmn (fun v y hv=>Qk6 hv) b w.heap.size n _ _ _ rfl HRg.out ?_ ?_)
  ·intro hc0 hl0
   have hpm:=HRc.out.done hl0;have hlM:M.length<=1048576:=by rw [hpm.length_eq];exact LL.out
   have hcon:=Qjp HL.out hpm hlM HOw.out;have HC:=Qaa hcon;clear hc0 hl0 hpm hlM hcon;go_wp2_with (go_at_call 88;refine HC.out.mono ?_;rintro e w1 ⟨rfl,ho1,hb1,hg1⟩;have HF:=Qaa (And.intro ho1 (HBl.out.grown hg1 (Nat.le_trans (ZZa _) HBl.out.size) (fun j hj=>Nat.le_of_succ_le (World.ownsRow.lt HOw.out j hj).1)));clear ho1 hb1 hg1);go_ret;exact ⟨_,rfl,HF.out.1.le (Nat.le_succ _),HF.out.2⟩
  ·intro xn xs cs kl y1 y2 w2 cnt2 hkey hlx hv hat hrg2 hlt hg2 hs2 hen
   obtain ⟨n',s',ek,rfl,kok⟩:=QfW hkey;obtain ⟨e1,e2⟩:=Qkv ek;subst e1;subst e2;have hy:y1=.held (.agg cs):=by cases hv;rfl
   obtain ⟨c,q1,q2,q3,R',hpR,hrc'⟩:=HRc.out.next HHo.out kok hlx hat;rw [hy] at q3;obtain rfl:=QhO q3;subst q1;subst q2;have HN:=Qaa (QnC HRg.out HHo.out HBS.out HOw.out HBl.out LL.out HRc.out hrc' hrg2 hlt hg2);obtain ⟨k1,k2,k3⟩:=Qpa w2 c.n c.s c.g c.p;have hR1:=Qac k2.out 0 rfl;have hR2:=Qac k2.out 1 rfl;obtain ⟨hG0,hG1,hG2,hG3,hG4,hG5,hG6,hG7,hG8,hG9,hG10,hG11,hG12⟩:=Qby k3.out;clear hkey hlx hv hat hrg2 hlt hg2 hs2 ek kok hy q3 hpR hrc' k2 k3 HRc HHo HOw;go_upto_region 5 with fail;have HN3:=Qaa (HN.out _ k1.out);clear HN k1;generalize (w2.alloc (.cells #[.int .i64 c.n,.string c.s] 85)).alloc (.cells (Qal c.g c.p) 49)=W3 at HN3 hR1 hR2 hG0 hG1 hG2 hG3 hG4 hG5 hG6 hG7 hG8 hG9 hG10 hG11 hG12 ⊢;go_wp2_with (at_builtin;refine wpList_append_own _ rfl _ _ 23 rfl (w.heap.size+1) 51 i0 (.agg Qcs) 15 192 Tryz.underlying23 hi hz0 hz1 hz2 rfl (by decide) _ _ _ rfl (World.ownsRow.alloc HN3.out.1 _) ⟨W3.heap.size,0,none⟩ 1 1 (ceL c) rfl rfl ?c1 ?c2 ?c3 ?c4 ?c5 ?_)
   case c1=>exact Qbz
   case c2=>exact Qcx c
   case c3=>have:=HN3.out.2.1;unfold maxLen;omega
   case c4=>have:=HN3.out.2.1;omega
   case c5=>have:=HN3.out.2.2.1;simp;omega
   intro v' w1 hown' hgrow _;obtain ⟨f1,f2⟩:=HN3.out.2.2.2 _ _ _ rfl hown' hgrow;have HF1:=Qaa f1;have HF2:=Qaa f2;clear hown' hgrow f1 f2 HN3;go_wp2;go_roundw
   case rel=>exact HF1
   case measure=>exact HF2.out
end Go.Proofs.YthchmdmncmioiaaGreatDoor
