/-
 Parts.
-/
import Derived.Test.YtandnmpllheniaaGreatDoorCJF
import Derived.RangeFuncNested
import Derived.RangeFuncBound
import Derived.RangeFuncCalls
import Derived.RangeFuncLeaves
import Derived.Shelf.Abstract
import Derived.Shelf.RegionOpen
import Derived.OwnWalkIn
import Derived.TacticsInMore
import Derived.LoopNIn
import Derived.LoopIn
import Derived.RegionIn
import Derived.Sort.MapsRangeIn
import Derived.Sort.EveryDepth
import Derived.Maps.AppendAt
import Derived.Maps.RangeWalk
import Derived.Maps.OwnSet
import Derived.Test.YtandnmpllheniaaGreatDoorCJB
import Derived.Test.YtandnmpllheniaaGreatDoorCKF
import Derived.Lib.BitFns
import Derived.Maps.Own
import Derived.Maps.Views
import Derived.Maps.Keyed
set_option linter.all false
set_option maxHeartbeats 2000000
set_option maxRecDepth 10000
namespace Go.Proofs.YtandnmpllheniaaGreatDoor
open Go.RowKit Go.Shelf Go.Maps
attribute [local go_sem] Oper.semAt_some
def CollU {H:Type} (D:DataW H) (left:Lit->Bool) (ss:List Int):Prop:=ss.Nodup/\∀ x,x∈ss↔(has D (.int .u64 x)=true/\left (.int .u64 x)=false)
theorem CollU.start {H:Type} (D:DataW H):CollU D (has D) []:=⟨List.nodup_nil,fun x=>by cases has D (.int .u64 x) <;> simp⟩
theorem CollU.step {H:Type} {D:DataW H} {left:Lit->Bool} {ss:List Int} (h:CollU D left ss) {x:Int} {y:DataW H} (hl:left (.int .u64 x)=true) (hat:∀ zd,D.atKey (.int .u64 x) zd=y):CollU D (fun z=>left z && !z.sameKey (.int .u64 x)) (ss ++ [x]):=by
 have hh:has D (.int .u64 x)=true:=has_true_of_atKey hat;have hn:x ∉ ss:=fun hx=>by have:=((h.2 x).1 hx).2;rw [hl] at this;cases this
 refine ⟨List.nodup_append.2 ⟨h.1,by simp,fun a ha b hb=>?_⟩,fun y=>?_⟩
 ·simp at hb;subst hb;exact fun e=>hn (e ▸ ha)
 ·by_cases hy:y=x
  ·subst hy;simp [hh,Lit.sameKey]
  ·simp [h.2 y,hy,Lit.sameKey]
def Qmi {H:Type} (D:DataW H) (ss:List Int):Prop:=ss.Nodup/\∀ x,x∈ss↔has D (.int .u64 x)=true
set_option maxRecDepth 100000 in
theorem keys1U {H:Type} (F:Fence) (n:Nat) (hF:F.fn 324) (hro:F.round=none) (hn:1<=n) (l Bm b nn:Nat) (D:DataW H) {R:Value->Option (DataW H×List MemPlace)} (J Jx:List Int->World->Prop)
  (hY:∀ pre x W,J pre W->pre.length<Maps.size D->YieldAt F (n - 1) Tryz.prog l #[.int .u64 x] W fun e W'=>(e=.returned (.bool true)/\J (pre ++ [x]) W'/\KeepsWalks W W')∨(e=.returned (.bool false)/\Jx (pre ++ [x]) W'))
  (W:World) (hJ:AbidesFrom W.heap.size J) (hm:W.cell? ⟨Bm,0,none⟩=some (.map (some b))) (hown:W.ownsMap Tryz.prog 26 R b nn D) (h0:J [] W) :
  CallsIn F n Tryz.prog 324 #[.func (.yield l) #[] #[],.pointer (some ⟨Bm,0,none⟩)] W fun e W'=>(∃ v,e=.returned v)/\((∃ ss,Qmi D ss/\J ss W')∨(∃ pre,True/\Jx pre W')):=by
 refine callsIn_of_wp Tryz.func324 rfl hF ?_ hro;simp only [Tryz.ntmps324,List.size_toArray,List.length_cons,List.length_nil,Nat.reduceAdd,Nat.reduceSub,Array.replicate_succ,Array.replicate_zero,List.push_toArray,List.append_toArray,List.nil_append,List.cons_append]
 gi_wp2_with (first
  | (gi_at_range;refine wpListIn_range_own _ rfl _ 320 rfl 26 2 (int_keyed Tryz.underlying26) Tryz.underlying320 _ b nn _ rfl hown ?_;intro w0 af ao aA)
  | gi_in)
 go_frame
 gi_loopw [3] (fun _ wr=>∃ (aa:Lit->Bool) (ai:Nat) (ss:List Int),wr.ranges Tryz.prog 26 R b W.heap.size nn D aa ai/\ss.length+ai<=Maps.size D/\CollU D aa ss/\J ss wr) (fun _ wr=>wr.rangeLeft b W.heap.size)
 case atStart=>exact ⟨_,_,[],af,by simp,CollU.start D,hJ [] W w0 none h0 ao (fun r e=>by cases e)⟩
 case round=>
  obtain ⟨aa,ai,ss,aj,aB,hC,ak⟩:=hrel
  gi_wp2_with (first
   | (gi_at_next;refine wpListIn_next_ranges _ rfl _ rfl 26 (int_keyed Tryz.underlying26) R (Value.int .u64) id (fun key kl hk=>by obtain ⟨x,hx,_⟩:=Maps.keyOf_int_inv Tryz.underlying26 hk;exact ⟨x,hx⟩) (fun v _ _=>⟨v,rfl⟩) b W.heap.size nn _ _ _ rfl aj ?_ ?_)
   | gi_in)
  ·intro aD az
   gi_wp2
   go_end0
   exact ⟨⟨_,rfl⟩,.inl ⟨ss,⟨hC.1,fun x=>by rw [hC.2 x,az];simp⟩,ak⟩⟩
  ·intro x c kl yd yp w2 ag ac ax hv aw ae ap an am aC
   obtain ⟨x',ex,rfl,_⟩:=Maps.keyOf_int_inv Tryz.underlying26 ac;obtain rfl:x=x':=by simpa using ex
   have ay:J ss w2:=hJ ss wr w2 (some W.heap.size) ak an (fun r e=>by cases e;exact ⟨ZZa _,aj.iter_walk⟩);obtain ⟨fn,al,ah,av,hy,hR⟩:=hY ss x w2 ay (by omega);clear am
   gi_wp2
   refine hR.mono ?_;have au:=hC.step ax aw;rintro e W3 (⟨rfl,ar,aq⟩ | ⟨rfl,ad⟩)
   ·gi_wp2
    have ab:=ae.of_walks aq;go_roundw
    case rel=>exact ⟨_,ag,ss ++ [x],ab,by simp;omega,au,ar⟩
    case measure=>rw [ab.left_eq,aj.left_eq];exact ap
   ·gi_wp2
    refine bodyPost_ret (results_none rfl _ _ _) rfl ?_;exact ⟨⟨_,rfl⟩,.inr ⟨_,trivial,ad⟩⟩
theorem infoU:(Tryz.prog.info? 26).map (fun i=>(i.zero,i.size,i.bytes))=some (some (.int .u64 0),1,8):=by kernel_rfl
def HoldU (w:World) (pre:List Int) (W:World):Prop:=(∃ v,Boxed W w.heap.size 44 v/\W.ownsRow w.heap.size 26 1 v pre.length (pre.map (Value.int .u64))/\(v=.slice none 0 0↔pre=[]))/\Below w.heap.size w W
set_option maxRecDepth 100000 in
theorem Ql8 (F:Fence) (n:Nat) (hF:F.fn 326) (hro:F.round=none) (hn:2<=n) (gf:Nat) (lb:Array Value) (hFg:F.fn gf) (eg:∀ args w,(callFunc gf args).run Tryz.prog w=.ok (.enter gf args) w)
  (S Sp:List Int->Prop) (N:Nat) (hN:N<=1000) (w:World) (hseq:SeqStopsK F (n - 1) Tryz.prog gf lb (fun x:Int=>#[.int .u64 x]) KeepsWalks S Sp N w) :
  CallsIn F n Tryz.prog 326 #[.slice none 0 0,.func (.func gf) #[] lb] w fun e w'=>∃ (v:Value) (ss:List Int),e=.returned v/\S ss/\w'.ownsRow w.heap.size 26 1 v ss.length (ss.map (Value.int .u64))/\(v=.slice none 0 0↔ss=[])/\Below w.heap.size w w':=by
 have h1:1<=n:=by omega
 obtain ⟨i0,hi,aq,an,ap⟩:=info_parts infoU;refine callsIn_of_wp_marks Tryz.func326 rfl hF ?_ hro;simp only [Tryz.ntmps326,List.size_toArray,List.length_cons,List.length_nil,Nat.reduceAdd,Nat.reduceSub,Array.replicate_succ,Array.replicate_zero,List.push_toArray,List.append_toArray,List.nil_append,List.cons_append]
 gi_wp2
 have ak:Boxed (w.alloc (.cells #[.slice none 0 0] 44)) w.heap.size 44 (.slice none 0 0):=Boxed.new w _ _;have ah:Below w.heap.size w (w.alloc (.cells #[.slice none 0 0] 44)):=(ZZb _ w).alloc (ZZa _) _
 refine wpIn_rangeFunc_ownF hro h1 (gf:=gf) (lb:=lb) rfl hFg eg hseq walksK_t walksK_b ah (fun _=>rfl) (HoldU w) (fun _ _ _=>False)
  (OwnFrom.and (Own.from (holdsRow_own w.heap.size w.heap.size 44 26 1 (fun ac:List Int=>ac.length) (fun ac=>ac.map (Value.int .u64)) (fun ac v=>(v=.slice none 0 0↔ac=[]))) _) (ownFrom_below (Nat.le_refl _) (by simp)))
  (fun _ _ _ _ _ hs _ _=>hs) ⟨⟨_,ak,World.ownsRow_nil _ _ _ _,by simp⟩,ah⟩
  (fun x=>{ tmps:=#[.slice none 0 0,.func (.func gf) #[] lb,.pointer (some ⟨w.heap.size,0,none⟩),undef,.slice none 0 0,.int .u64 x,.func (.func gf) #[] lb,.int .u64 x,undef,undef,undef,undef,undef],defers:=[] }) ?assign ?body ?done ?stop
 case assign=>
  intro l x W K hK
  gi_wp2
  exact hK
 case body=>
  rintro l ac x W ⟨⟨v,hv,aa,ae⟩,hB⟩ am;have hc:=hv.cell;have hf:=hv.frozen
  gi_wp2_with (gi_at_builtin;refine wpListIn_append_own _ rfl _ _ 44 rfl w.heap.size 26 i0 (.int .u64 0) 1 8 Tryz.underlying44 hi aq an ap rfl (by decide) _ _ _ rfl (aa.alloc _) ⟨W.heap.size,0,none⟩ 1 1 [.int .u64 x] rfl rfl (cell_one_new _ _ _) (by simp [Value.oneCell']) (by unfold maxLen;omega) (by omega) (by have:=hB.size;simp;omega) ?_;intro v' w1 ab ad _;obtain ⟨g',ai,rfl⟩:=ownsRow_succ ab; obtain ⟨af,ao,al,ag,aj⟩:=hv.appended (by decide) aa hB.size (Nat.le_refl _) ab ad;have ar:=af.cell;have au:=af.frozen)
  exact ⟨ag,ag.walks,⟨⟨_,ao,by simpa using al,by simp⟩,hB.trans aj⟩⟩
 case done=>
  rintro D ys W hD hS ⟨⟨v,hv,aa,ae⟩,hB⟩ hK;have hc:=hv.cell
  gi_wp2
  refine ⟨by simp,.inl ⟨_,_,rfl,run_takeDeferred hK,?_⟩⟩;exact ⟨_,results_tmp rfl _ _ _,v,ys,rfl,hS,ownsRow_putObj aa _ hK rfl,ae,hB.trans (belowK_b (w:=w) (Nat.le_refl _) W D _ _ (by simp at hD;omega) hK rfl rfl)⟩
 case stop=>
  rintro D c ac W _ _ h _;exact h.elim
end Go.Proofs.YtandnmpllheniaaGreatDoor
namespace Go.Proofs.YtandnmpllheniaaGreatDoor
open Go.ChangeShapes Go.WideShapes Go.ChangeAt Go.RowKit Go.PlainAid Go.Maps
open Go.Sort (ltInt PermIn SortedIn)
theorem Qru (b:Nat) (w:World) :
  Calls Tryz.prog 319 #[.map (some b)] w fun e w'=>e=.returned (.func (.func 324) #[] #[.pointer (some ⟨w.heap.size,0,none⟩)])/\w'=w.alloc (.cells #[.map (some b)] 320):=by
 go_enter Tryz.func319,Tryz.ntmps319;go_wp2;go_ret;exact ⟨rfl,rfl⟩
theorem Qkz {H:Type} (Bm b nn:Nat) (D:DataW H) {R:Value->Option (DataW H×List MemPlace)} (w:World) (hBm:Bm<w.heap.size) (hm:w.cell? ⟨Bm,0,none⟩=some (.map (some b))) (hown:w.ownsMap Tryz.prog 26 R b nn D) :
  SeqStopsK Fence.wide 2 Tryz.prog 324 #[.pointer (some ⟨Bm,0,none⟩)] (fun x:Int=>#[.int .u64 x]) KeepsWalks (Qmi D) (fun _=>True) (Maps.size D) w:=fun l J Jx W hW hJ hJx hY h0=>by
 have hown':W.ownsMap Tryz.prog 26 R b nn D:=by
  have ab:=hown.lt;obtain ⟨es,aa,hb,Ft,hs,hD⟩:=hown;exact ⟨es,aa,(hW.block b ab).trans hb,Ft,hs,hD⟩
 exact keys1U Fence.wide 2 trivial rfl (by omega) l Bm b nn D J Jx hY W hJ ((hW.cell (p:=⟨Bm,0,none⟩) hBm).trans hm) hown' h0
theorem Qmp {H:Type} (Bm b nn:Nat) (D:DataW H) {R:Value->Option (DataW H×List MemPlace)} (w:World) (hBm:Bm<w.heap.size) (hm:w.cell? ⟨Bm,0,none⟩=some (.map (some b))) (hown:w.ownsMap Tryz.prog 26 R b nn D) (hN:Maps.size D<=1000) :
  Calls Tryz.prog 322 #[.func (.func 324) #[] #[.pointer (some ⟨Bm,0,none⟩)]] w fun e w'=>∃ (v:Value) (ss:List Int),e=.returned v/\Qmi D ss/\w'.ownsRow w.heap.size 26 1 v ss.length (ss.map (Value.int .u64))/\(v=.slice none 0 0↔ss=[])/\Below w.heap.size w w':=by
 have hc:=(callsIn_wide (n:=3)).1 (Ql8 Fence.wide 3 trivial rfl (by omega) 324 #[.pointer (some ⟨Bm,0,none⟩)] trivial (enters_of Tryz.func324 (by kernel_rfl) rfl) (Qmi D) (fun _=>True) (Maps.size D) hN w (Qkz Bm b nn D w hBm hm hown));have HC:=Qaa hc;clear hc hm hown;go_enter Tryz.func322,Tryz.ntmps322;go_wp2_with fail;refine HC.out.mono ?_;rintro e w1 ⟨v,ss,rfl,h⟩;have H:=Qaa h;clear h;go_wp2;go_ret;exact ⟨v,ss,rfl,H⟩
def RiseU {H:Type} (D:DataW H) (L:List Int):Prop:=L.Pairwise (· < ·)/\∀ x,x∈L↔has D (.int .u64 x)=true
theorem Qks {M:Array Int} (h:SortedIn ltInt 0 M.size M):M.toList.Pairwise (·<=·):=by
 rw [List.pairwise_iff_getElem];intro i j hi hj aa;have:=h i j (Nat.zero_le _) aa (by simpa using hj);simp only [ltInt,decide_eq_false_iff_not,Int.not_lt] at this;rw [getElem!_pos M i (by simpa using hi),getElem!_pos M j (by simpa using hj)] at this
 simpa using this
theorem Qkg {L:List Int} (h:L.Pairwise (·<=·)) (n:L.Nodup):L.Pairwise (· < ·):=by
 rw [List.pairwise_iff_getElem] at h ⊢;intro i j hi hj aa;have a:=h i j hi hj aa;have b:=List.pairwise_iff_getElem.1 n i j hi hj aa;omega
theorem QoX (w:World):Calls Tryz.prog 173 #[.int .u64 0] w fun e w'=>(∃ v,e=.returned (.int .i64 v))/\w'=w:=by
 go_enter Tryz.func173,Tryz.ntmps173;go_wp2;go_ret;exact ⟨⟨_,rfl⟩,rfl⟩
theorem Qms (w:World):Calls Tryz.prog 130 #[.int .u64 0] w fun e w'=>(∃ v,e=.returned (.int .i64 v))/\w'=w:=by
 go_enter Tryz.func130,Tryz.ntmps130;go_wp2_with (go_at_call 173;refine (QoX _).mono ?_;rintro e w2 ⟨⟨v,rfl⟩,hw⟩;obtain rfl:=hw.symm);go_ret;exact ⟨⟨_,rfl⟩,rfl⟩
theorem c_insZ (w:World):Calls Tryz.prog 328 #[.slice none 0 0,.int .i64 0,.int .i64 0] w fun e w'=>(∃ r,e=.returned r)/\w'=w:=by
 go_enter Tryz.func328,Tryz.ntmps328;go_wp2;refine wp_loop_rounds 1 ?_;rw [rounds_succ];go_wp2
 go_end0
 exact ⟨⟨_,rfl⟩,rfl⟩
theorem c_pdqZ (lim:Int) (w:World):Calls Tryz.prog 327 #[.slice none 0 0,.int .i64 0,.int .i64 0,.int .i64 lim] w fun e w'=>(∃ r,e=.returned r)/\w'=w:=by
 go_enter Tryz.func327,Tryz.ntmps327;go_wp2;refine wp_loop_rounds 1 ?_;rw [rounds_succ];go_wp2_with fail;refine (c_insZ _).mono ?_;rintro e w1 ⟨⟨r,rfl⟩,hw⟩;obtain rfl:=hw.symm;go_wp2
 (try simp only [Exit.inBlock,Exit.then]);refine bodyPost_ret (results_none rfl _ _ _) rfl ?_
 exact ⟨⟨_,rfl⟩,rfl⟩
theorem Qq9 (w:World):Calls Tryz.prog 323 #[.slice none 0 0] w fun e w'=>(∃ r,e=.returned r)/\w'=w:=by
 go_enter Tryz.func323,Tryz.ntmps323;go_wp2_with fail;refine (Qms _).mono ?_;rintro e w1 ⟨⟨v,rfl⟩,hw⟩;obtain rfl:=hw.symm;go_wp2_with fail;refine (c_pdqZ v _).mono ?_;rintro e w2 ⟨⟨r,rfl⟩,aa⟩;obtain rfl:=aa.symm;go_wp2
 go_end0
 exact ⟨⟨_,rfl⟩,rfl⟩
theorem Qoi {H:Type} (Bm b nn:Nat) (D:DataW H) {R:Value->Option (DataW H×List MemPlace)} (w:World) (hBm:Bm<w.heap.size) (hm:w.cell? ⟨Bm,0,none⟩=some (.map (some b))) (hown:w.ownsMap Tryz.prog 26 R b nn D) (hN:Maps.size D<=40) (hL:∀ ss,Qmi D ss->ss.length<=40) :
  Calls Tryz.prog 318 #[.func (.func 324) #[] #[.pointer (some ⟨Bm,0,none⟩)]] w fun e w'=>∃ (v:Value) (L:List Int),e=.returned v/\RiseU D L/\w'.ownsRow w.heap.size 26 1 v L.length (L.map (Value.int .u64))/\Below w.heap.size w w':=by
 have HC:=Qaa (Qmp Bm b nn D w hBm hm hown (by omega));have HL:=Qaa hL;clear hBm hm hown hL;go_enter Tryz.func318,Tryz.ntmps318;go_wp2_with fail;refine HC.out.mono ?_;rintro e w1 ⟨v,ss,rfl,hK,hO,ab,ae⟩;have aa:=HL.out ss hK;have HK:=Qaa hK;have ag:=Qaa ae
 cases ss with
 | nil=>
  obtain rfl:=ab.2 rfl;have HO:=Qaa hO;clear hO hK ab ae aa;go_wp2_with fail;refine (Qq9 _).mono ?_;rintro e w2 ⟨⟨r,rfl⟩,hw⟩;obtain rfl:=hw.symm;go_wp2;go_ret;exact ⟨_,[],rfl,⟨List.Pairwise.nil,HK.out.2⟩,HO,ag⟩
 | cons x0 r=>
  obtain ⟨g,c,rfl⟩:=Qff hO (by simp);have hR:RowU w1 w.heap.size g (x0 :: r).length c (x0 :: r).toArray:=⟨by simp,by simpa using hO⟩;have HR:=Qaa hR;generalize hn:(x0 :: r).length=n at aa HR ⊢;have h1:1<=n:=by rw [<- hn];simp
  have HN:=Qaa hn;clear hO hK ab ae hR hn;go_wp2_with fail;refine (QqY aa h1 (by simpa using HK.out.1) HR).mono ?_;rintro e w2 ⟨r2,rfl,M,hp,hs,ac,af⟩;have ad:M.size=n:=ac.1
  have HF:Hid (RiseU D M.toList/\w2.ownsRow w.heap.size 26 1 (.slice (some ⟨g,0,none⟩) n c) M.toList.length (M.toList.map (Value.int .u64))/\Below w.heap.size w w2):=by
   have ah:M.toList.Nodup:=(hp.nodup_iff).2 (by simpa using HK.out.1);refine ⟨⟨Qkg (Qks (by rw [ad];exact hs)) ah,fun x=>?_⟩,?_,ag.out.trans af⟩
   ·rw [hp.mem_iff,<- HK.out.2 x]
   ·have:=ac.2;rw [show M.toList.length=n by simpa using ad];exact this
  clear hp hs ac af ad;go_wp2;go_ret;exact ⟨_,M.toList,rfl,HF.out.1,HF.out.2.1,HF.out.2.2⟩
end Go.Proofs.YtandnmpllheniaaGreatDoor
namespace Go.Proofs.YtandnmpllheniaaGreatDoor
open Go.ChangeShapes Go.WideShapes Go.ChangeAt Go.RowKit Go.PlainAid Go.Maps
def QbZ:List Int->Int->List Int
 | [],x=>[x]
 | y :: r,x=>if y<x then y :: QbZ r x else if y=x then y :: r else x :: y :: r
theorem Qde (z:Int):∀ (l:List Int) (x:Int),z∈QbZ l x↔z=x∨z∈l
 | [],x=>by simp [QbZ]
 | y :: r,x=>by
  unfold QbZ
  split
  ·simp only [List.mem_cons,Qde z r x]
   constructor
   ·rintro (h | h | h) <;> simp [h]
   ·rintro (h | h | h) <;> simp [h]
  ·split
   ·rename_i e;subst e;simp
   ·simp
theorem QlX:∀ (l:List Int) (x:Int),l.Pairwise (· < ·)->(QbZ l x).length=l.length+(if x∈l then 0 else 1)
 | [],x,_=>by simp [QbZ]
 | y :: r,x,h=>by
  have hr:=List.pairwise_cons.1 h;unfold QbZ
  split
  ·rename_i hlt
   rw [List.length_cons,QlX r x hr.2];have:x∈y :: r↔x∈r:=by simp;intro e;omega
   by_cases hx:x∈r
   ·rw [if_pos hx,if_pos (this.2 hx)];simp
   ·rw [if_neg hx,if_neg (fun k=>hx (this.1 k))];simp
  ·split
   ·rename_i e;subst e;simp
   ·rename_i h1 h2
    have:x ∉ y :: r:=by
     simp only [List.mem_cons,not_or];exact ⟨fun e=>h2 e.symm,fun hm=>by have:=hr.1 x hm;omega⟩
    rw [if_neg this];simp
theorem QgA:∀ (l:List Int) (x:Int),l.Pairwise (· < ·)->(QbZ l x).Pairwise (· < ·)
 | [],x,_=>by simp [QbZ]
 | y :: r,x,h=>by
  have hr:=List.pairwise_cons.1 h;unfold QbZ
  split
  ·rename_i hlt
   refine List.pairwise_cons.2 ⟨fun z hz=>?_,QgA r x hr.2⟩;rcases (Qde z r x).1 hz with h' | h'
   ·omega
   ·exact hr.1 z h'
  ·split
   ·exact h
   ·rename_i h1 h2
    refine List.pairwise_cons.2 ⟨fun z hz=>?_,h⟩;rcases List.mem_cons.1 hz with h' | h'
    ·omega
    ·have:=hr.1 z h'; omega
theorem Qix:∀ (l m:List Int),l.Pairwise (· < ·)->m.Pairwise (· < ·)->(∀ z,z∈l↔z∈m)->l=m
 | [],[],_,_,_=>rfl
 | [],y :: r,_,_,h=>absurd ((h y).2 (by simp)) (by simp)
 | x :: l,[],_,_,h=>absurd ((h x).1 (by simp)) (by simp)
 | x :: l,y :: m,hl,hm,h=>by
  have a:=List.pairwise_cons.1 hl;have b:=List.pairwise_cons.1 hm
  have e:x=y:=by
   have h1:=(h x).1 (by simp);have h2:=(h y).2 (by simp);rcases List.mem_cons.1 h1 with h1 | h1
   ·exact h1
   ·rcases List.mem_cons.1 h2 with h2 | h2
    ·exact h2.symm
    ·have:=b.1 x h1;have:=a.1 y h2;omega
  subst e;rw [Qix l m a.2 b.2 (fun z=>?_)];constructor
  ·intro hz
   rcases List.mem_cons.1 ((h z).1 (by simp [hz])) with h' | h'
   ·have:=a.1 z hz;omega
   ·exact h'
  ·intro hz
   rcases List.mem_cons.1 ((h z).2 (by simp [hz])) with h' | h'
   ·have:=b.1 z hz;omega
   ·exact h'
def Qce (l m:List Int):List Int:=m.foldl QbZ l
theorem QnI (m:List Int):∀ l:List Int,l.Pairwise (· < ·)->(Qce l m).Pairwise (· < ·):=by
 induction m with
 | nil=>intro l h;exact h
 | cons x m ih=>intro l h;exact ih _ (QgA l x h)
theorem QbI (z:Int) (m:List Int):∀ l:List Int,z∈Qce l m↔z∈l∨z∈m:=by
 induction m with
 | nil=>intro l;simp [Qce]
 | cons x m ih=>
  intro l
  show z∈Qce (QbZ l x) m↔_
  rw [ih,Qde,List.mem_cons];constructor
  ·rintro ((h | h) | h) <;> simp [h]
  ·rintro (h | h | h) <;> simp [h]
theorem QmZ (l m:List Int) (x:Int):Qce l (m ++ [x])=QbZ (Qce l m) x:=by simp [Qce,List.foldl_append]
def rho (x:Int):Int:=min (64 - (Lib.bitLen (IntKind.u64.wrap (x*64)).toNat:Int)+1) 55
theorem Qm8 (x:Int):0<=IntKind.u64.wrap x/\IntKind.u64.wrap x<=18446744073709551615:=by
 have:IntKind.u64.wrap x=x % 18446744073709551616:=by simp [IntKind.wrap,IntKind.bits,IntKind.signed]
 rw [this];omega
theorem QjG:∀ (f x:Nat),Lib.bitLenAux f x<=f
 | 0,x=>by simp [Lib.bitLenAux]
 | f+1,x=>by
  unfold Lib.bitLenAux
  split
  ·omega
  ·have:=QjG f (x / 2);omega
theorem Qdm (x:Nat):Lib.bitLen x<=64:=QjG 64 x
theorem Qn9 (x:Int):1<=rho x/\rho x<=55:=by
 unfold rho;have:=Qdm (IntKind.u64.wrap (x*64)).toNat;omega
theorem QlF (x:Int) (w:World):Calls Tryz.prog 321 #[.int .u64 x] w fun e w'=>e=.returned (.int .i64 (rho x))/\w'=w:=by
 obtain ⟨h0,h1⟩:=Qm8 (x*64);obtain ⟨z,hz⟩:∃ z:Int,64 - (Lib.bitLen (IntKind.u64.wrap (x*64)).toNat:Int)=z:=⟨_,rfl⟩;have hb:=Qdm (IntKind.u64.wrap (x*64)).toNat;have HR:Hid (min (z+1) 55=rho x):=(by unfold rho;rw [hz]:min (z+1) 55=rho x);have HC:Hid (∀ W,Calls Tryz.prog 325 #[.int .u64 (IntKind.u64.wrap (x*64))] W fun e w'=>e=.returned (.int .i64 z)/\w'=W):=fun W=>by rw [<- hz];exact Tryz.bits_LeadingZeros64 _ W h0 h1
 have uz:IntKind.i64.wrap (z+1)=z+1:=ZZi _ ⟨by omega,by omega⟩;clear h0 h1 hz hb;go_enter Tryz.func321,Tryz.ntmps321;go_wp2_with fail;refine (HC.out _).mono ?_;rintro e w1 ⟨rfl,hw⟩;obtain rfl:=hw.symm;go_wp2;go_ret;exact ⟨by rw [<- HR.out];rfl,rfl⟩
def MpU (W:World) (b:Nat) (n:Nat) (L:List Int):Prop:=L.Pairwise (· < ·)/\∃ D:DataW Unit,W.ownsMap Tryz.prog 26 (plainElem Tryz.prog 2) b n D/\(∀ x,has D (.int .u64 x)=true↔x∈L)/\Maps.size D=L.length/\∀ x∈L,∀ z,D.atKey (.int .u64 x) z=.lit (.int .i64 (rho x))
theorem MpU.start (w:World):MpU (w.alloc (.map #[] 0)) w.heap.size 0 []:=
 ⟨List.Pairwise.nil,.map [],World.ownsMap_made w Tryz.prog 26 (plainElem Tryz.prog 2),fun x=>by simp [has_eq],rfl,fun x hx=>absurd hx (by simp)⟩
theorem QrD:Keyed Tryz.prog 26:=int_keyed Tryz.underlying26
theorem wfU {x:Int} (h:U64 x):(Lit.int .u64 x).wf=true:=by
 unfold U64 at h;simp [Lit.wf,IntKind.signed,IntKind.bits,IntKind.min,IntKind.max];omega
theorem wfR (x:Int):(Lit.int .i64 (rho x)).wf=true:=by
 have:=Qn9 x;simp [Lit.wf,IntKind.signed,IntKind.bits,IntKind.min,IntKind.max];omega
theorem QmV {D:DataW Unit} {L:List Int} (hr:L.Pairwise (· < ·)) (hT:Tidy D) (h1:∀ x,has D (.int .u64 x)=true↔x∈L) (h2:Maps.size D=L.length) (h3:∀ x∈L,∀ z,D.atKey (.int .u64 x) z=.lit (.int .i64 (rho x))) (y:Int) :
  (∀ x,has (D.put (.int .u64 y) (.lit (.int .i64 (rho y)))) (.int .u64 x)=true↔x∈QbZ L y)/\Maps.size (D.put (.int .u64 y) (.lit (.int .i64 (rho y))))=(QbZ L y).length/\∀ x∈QbZ L y,∀ z,(D.put (.int .u64 y) (.lit (.int .i64 (rho y)))).atKey (.int .u64 x) z=.lit (.int .i64 (rho x)):=by
 have hk:WideAt.IsKeyLit (.int .u64 y):=trivial;refine ⟨fun x=>?_,?_,fun x hx z=>?_⟩
 ·by_cases e:x=y
  ·subst e;rw [has_put_same hT.isMap hk];simp [Qde]
  ·rw [has_put_other (by intro h;exact e (by injection h))]
   rw [h1,Qde];simp [e]
 ·rw [size_put hT,QlX L y hr,h2]
  by_cases e:y∈L
  ·rw [if_pos ((h1 y).2 e),if_pos e];first | rfl | omega
  ·rw [if_neg (fun k=>e ((h1 y).1 k)),if_neg e]
 ·by_cases e:x=y
  ·subst e;exact atKey_put_same hT.isMap hk _ z
  ·rw [atKey_put_other (by intro h;exact e (by injection h))]
   rcases (Qde x L y).1 hx with h | h
   ·exact absurd h e
   ·exact h3 x h z
theorem Qrt (z:Int) (w:World):(Instr.makeMap 320 (some (.int .i64 z))).run Tryz.prog w=.ok (.map (some w.heap.size)) (w.alloc (.map #[] 0)):=by
 have h:=Tryz.underlying320;simp [Instr.makeMap,h];rfl
theorem MpU.grow {w w1:World} {b n:Nat} {L:List Int} (h:MpU w b n L) {y:Int} {D:DataW Unit} (hown:w.ownsMap Tryz.prog 26 (plainElem Tryz.prog 2) b n D) (h1:∀ x,has D (.int .u64 x)=true↔x∈L) (h2:Maps.size D=L.length) (h3:∀ x∈L,∀ z,D.atKey (.int .u64 x) z=.lit (.int .i64 (rho x))) (hown1:w1.ownsMap Tryz.prog 26 (plainElem Tryz.prog 2) b (n+1) (D.put (.int .u64 y) (.lit (.int .i64 (rho y))))):MpU w1 b (n+1) (QbZ L y):=by
 obtain ⟨q1,q2,q3⟩:=QmV h.1 (hown.tidy QrD) h1 h2 h3 y;exact ⟨QgA L y h.1,_,hown1,q1,q2,q3⟩
theorem Qh8 {L M:List Int} {k:Nat} {y:Int} (h:M[k]?=some y):Qce L (M.take (k+1))=QbZ (Qce L (M.take k)) y:=by
 rw [List.take_add_one,h];exact QmZ _ _ _
theorem QoR {w:World} {ao bo:Option Addr} {A B:List Int} (c c' n m:Nat) (hn:A.length=n) (hm:B.length=m) (ln:n<=1000) (lm:m<=1000) (hA:Qaq .u64 w ao A) (hB:Qaq .u64 w bo B) (ua:∀ x∈A,U64 x) (ub:∀ x∈B,U64 x) :
  Calls Tryz.prog 317 #[.slice ao n c,.slice bo m c'] w fun e w'=>e=.returned (.map (some w.heap.size))/\MpU w' w.heap.size (n+m) (Qce (Qce [] A) B)/\Below w.heap.size w w':=by
 have HA:=Qaa hA;have HB:=Qaa hB;have HN:=Qaa hn;have HM:=Qaa hm;have UA:=Qaa ua;have UB:=Qaa ub;have am:=Qrt;have M0:=Qaa (MpU.start w);clear hA hB hn hm ua ub;go_enter Tryz.func317,Tryz.ntmps317;go_wp2
 go_loopw [18] (fun i wr=>∃ (k:Nat),k<=n/\i=.int .i64 k/\Hid (MpU wr w.heap.size k (Qce [] (A.take k)))/\Hid (Below w.heap.size w wr)) (fun i wr=>n - (Go.RowKit.intOf i).toNat)
 case atStart=>exact ⟨0,ZZj _,rfl,M0,(ZZb _ _).alloc (ZZa _) _⟩
 case round=>
  clear M0;obtain ⟨k,hk,rfl,HO,ae⟩:=hrel;by_cases ak:k<n
  ·obtain ⟨g,aj,e,ac⟩:=HA.out (by have:=HN.out;omega)
   obtain ⟨y,hy⟩:∃ y,A[k]?=some y:=⟨A[k]'(by have:=HN.out;omega),ZZe _⟩;subst e;have al:=Qab ae (ac k y hy);have HY:=Qaa hy;have HZ:=Qaa (UA.out y (ZZn hy));obtain ⟨hp,D,ad,h1,h2,h3⟩:=HO.out;have HG:Hid (∀ w1:World,w1.ownsMap Tryz.prog 26 (plainElem Tryz.prog 2) w.heap.size (k+1) (D.put (.int .u64 y) (.lit (.int .i64 (rho y))))->MpU w1 w.heap.size (k+1) (Qce [] (A.take (k+1)))):=fun w1 q=>by rw [Qh8 HY.out];exact HO.out.grow ad h1 h2 h3 q
   have HD:=Qaa ad;clear ac hy hp h1 h2 h3 ad
   go_wp2_with (first
    | (go_at_call 321;refine (QlF _ _).mono ?_;rintro e w1 ⟨rfl,af⟩;obtain rfl:=af.symm)
    | (at_mapUpdate;refine wpList_mapUpdate_own _ rfl _ _ _ 320 rfl 26 2 QrD Tryz.underlying320 _ w.heap.size k _ rfl HD (by unfold maxLen;omega) _ _ _ rfl rfl (keyOf_int_mk Tryz.underlying26 (wfU HZ)) _ [] (plainElem_int Tryz.underlying2 (wfR y)) ?_;intro w1 ab aa;have ah:=Qaa (HG.out w1 ab);have ag:=Qaa (ae.out.grown aa ae.out.size (fun j hj=>by cases hj;exact Nat.le_refl _));clear ab aa))
   go_roundw
   case rel=>exact ⟨k+1,by omega,by go_num,ah,ag⟩
   case measure=>simp [zI];omega
  ·have eL:A.take k=A:=List.take_of_length_le (by have:=HN.out;omega)
   rw [eL] at HO;obtain rfl:k=n:=by omega
   clear eL hk ak;go_wp2
   go_loopw [29] (fun i wr=>∃ (j:Nat),j<=m/\i=.int .i64 j/\Hid (MpU wr w.heap.size (k+j) (Qce (Qce [] A) (B.take j)))/\Hid (Below w.heap.size w wr)) (fun i wr=>m - (Go.RowKit.intOf i).toNat)
   case atStart=>exact ⟨0,ZZj _,rfl,HO,ae⟩
   case round=>
    clear HO ae;obtain ⟨j,hj,rfl,HO,ae⟩:=hrel;by_cases ai:j<m
    ·obtain ⟨g,aj,e,ac⟩:=HB.out (by have:=HM.out;omega)
     obtain ⟨y,hy⟩:∃ y,B[j]?=some y:=⟨B[j]'(by have:=HM.out;omega),ZZe _⟩;subst e;have al:=Qab ae (ac j y hy);have HY:=Qaa hy;have HZ:=Qaa (UB.out y (ZZn hy));obtain ⟨hp,D,ad,h1,h2,h3⟩:=HO.out;have HG:Hid (∀ w1:World,w1.ownsMap Tryz.prog 26 (plainElem Tryz.prog 2) w.heap.size (k+j+1) (D.put (.int .u64 y) (.lit (.int .i64 (rho y))))->MpU w1 w.heap.size (k+(j+1)) (Qce (Qce [] A) (B.take (j+1)))):=fun w1 q=>by rw [Qh8 HY.out];exact HO.out.grow ad h1 h2 h3 q
     have HD:=Qaa ad;clear ac hy hp h1 h2 h3 ad
     go_wp2_with (first
      | (go_at_call 321;refine (QlF _ _).mono ?_;rintro e w1 ⟨rfl,af⟩;obtain rfl:=af.symm)
      | (at_mapUpdate;refine wpList_mapUpdate_own _ rfl _ _ _ 320 rfl 26 2 QrD Tryz.underlying320 _ w.heap.size (k+j) _ rfl HD (by unfold maxLen;omega) _ _ _ rfl rfl (keyOf_int_mk Tryz.underlying26 (wfU HZ)) _ [] (plainElem_int Tryz.underlying2 (wfR y)) ?_;intro w1 ab aa;have ah:=Qaa (HG.out w1 ab);have ag:=Qaa (ae.out.grown aa ae.out.size (fun j hj=>by cases hj;exact Nat.le_refl _));clear ab aa))
     go_roundw
     case rel=>exact ⟨j+1,by omega,by go_num,ah,ag⟩
     case measure=>simp [zI];omega
    ·have eL:B.take j=B:=List.take_of_length_le (by have:=HM.out;omega)
     rw [eL] at HO;obtain rfl:j=m:=by omega
     clear eL hj ai;go_wp2;go_ret;exact ⟨rfl,HO,ae⟩
end Go.Proofs.YtandnmpllheniaaGreatDoor
