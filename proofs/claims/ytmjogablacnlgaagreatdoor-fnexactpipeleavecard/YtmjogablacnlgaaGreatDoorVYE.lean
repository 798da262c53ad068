/-
 cells of a live pipe: those of all shards, in order.
-/
import Derived.Test.YtmjogablacnlgaaGreatDoorVYB
namespace Go.Proofs.YtmjogablacnlgaaGreatDoor
set_option linter.unusedVariables false
set_option linter.unusedSimpArgs false
open Go.ChangeShapes Go.WideShapes Go.ChangeAt Go.RowKit Go.PlainAid Go.Lib Go.Shelf Go.Maps
open Go.Sort hiding Below
set_option maxRecDepth 10000
theorem keyInvS (key:Value) (kl:Lit) (h:keyOf Tryz.prog 9 key=some kl):∃ x:ByteArray,key=.string x:=by
 obtain ⟨x,e,_⟩:=Go.Maps.keyOf_str Tryz.underlying9 h;exact ⟨_,e⟩
theorem keyLitS {x:ByteArray} {kl:Lit} (h:keyOf Tryz.prog 9 (.string x)=some kl):kl=litT x:=by
 obtain ⟨y,e,e2,_⟩:=Go.Maps.keyOf_str Tryz.underlying9 h;unfold encStr at e;injection e with e;rw [e2,e];unfold litT;rw [toL_mk]
theorem heldS_inj {cs:Array Value} {s:Sd} (h:(DataW.held (Value.agg cs):DataW Value)=heldS s):cs=sdArr s:=by
 injection h with q;injection q
def LiS (w:World) (b:Nat) (L:List Sd) (v:Value) (wr:World):Prop:=
 ∃ (D:DataW Value) (left:Lit→Bool) (cnt n:Nat) (A R:List Sd),wr.ranges Tryz.prog 9 rS b w.heap.size n D left cnt∧HoldsS D L∧RgS D left L A R∧OwnC wr (w.heap.size+1) v (allC A)∧Below w.heap.size w wr
theorem allC_perm {A B:List Sd} (h:A.Perm B):(allC A).Perm (allC B):=h.flatMap_right _
theorem step_cells {w wr w2:World} {b n cnt cnt2:Nat} {D:DataW Value} {left left':Lit→Bool} {L A R R':List Sd} {u:Value} {c:Sd} (hrg:wr.ranges Tryz.prog 9 rS b w.heap.size n D left cnt) (hho:HoldsS D L) (hbs:b<w.heap.size) (how:OwnC wr (w.heap.size+1) u (allC A)) (hbl:Below w.heap.size w wr) (lL:(allC L).length≤1048576)
  (hrc:RgS D left L A R) (hrc':RgS D left' L (A ++ [c]) R') (hrg2:w2.ranges Tryz.prog 9 rS b w.heap.size n D left' cnt2) (hlt:cnt2<cnt) (hg2:wr.grownBy w2 (some w.heap.size)) (W3:World) (hb3:Below w2.heap.size w2 W3) :
  OwnC W3 (w.heap.size+1) u (allC A)∧(allC A).length+c.L.length≤1048576∧w.heap.size+1≤W3.heap.size∧Below w.heap.size w W3∧∀ v' w1 T,T=69→w1.ownsRow (w.heap.size+1) T 15 v' ((allC A).length+c.L.length) (flC (allC A) ++ flC c.L)→W3.grownBy w1 u.ownBlock→LiS w b L v' w1∧w1.rangeLeft b w.heap.size<wr.rangeLeft b w.heap.size:=by
 have o2:OwnC w2 (w.heap.size+1) u (allC A):=World.ownsRow.kept how hg2 (own_far how (by omega));have o3:=o2.past hb3
 have lM:(allC A).length+c.L.length≤1048576:=by
  have:=(allC_perm hrc'.p).length_eq;rw [allC_app,allC_app,allC_one,List.length_append,List.length_append] at this;omega
 have hr:=hrg2.lt;have z3:=hb3.size;have bl2:Below w.heap.size w w2:=hbl.grown hg2 hbl.size (fun j hj=>by cases hj;exact Nat.le_refl _);have bl3:Below w.heap.size w W3:=bl2.trans (hb3.mono bl2.size);refine ⟨o3,lM,by omega,bl3,fun v' w1 T hT hown hgr=>?_⟩;subst hT;have hg4:w2.grownBy W3 none:=⟨hb3.os,hb3.tape,hb3.output,hb3.size,fun i hi _=>hb3.block i hi⟩;have ub:∀ j,u.ownBlock=some j→w.heap.size+1≤j:=fun j q=>(World.ownsRow.lt how j q).1;have r1:=(hrg2.kept hg4 (by simp) (by simp)).kept hgr (fun e=>by have:=ub b e.symm;omega) (fun e=>by have:=ub _ e.symm;omega);refine ⟨⟨D,left',cnt2,n,A ++ [c],R',r1,hho,hrc',?_,bl3.grown hgr bl3.size (fun j hj=>Nat.le_of_succ_le (ub j hj))⟩,?_⟩
 ·show w1.ownsRow _ _ _ _ _ _
  rw [allC_app,allC_one,List.length_append,flC_app];exact hown
 ·rw [r1.left_eq,hrg.left_eq];exact hlt
theorem own_src {w:World} {B:Nat} {c:Sd} (h:OwnC w B (slS c) c.L):(c.ao=none→c.L.length=0∧c.cp=0)∧∀ ad,c.ao=some ad→∀ j u,(flC c.L)[j]?=some u→w.cell? (ad.add j)=some u:=by
 rcases h.2 with ⟨e,h0⟩ | ⟨g,cap,cur,e,_,hg,_⟩
 ·injection e with e1 e2 e3
  exact ⟨fun _=>⟨h0,e3⟩,fun ad q=>by rw [e1] at q;cases q⟩
 ·have h':=h
  unfold slS at h';injection e with e1 e2 e3;refine ⟨(fun q=>by rw [e1] at q;cases q),fun ad q j u hu=>?_⟩;rw [e1] at q;injection q with q;subst q;have hj:=(List.getElem?_eq_some_iff.1 hu).1;rw [flC_len] at hj;rw [e1] at h';rw [Addr.add_lit,Nat.zero_add,World.ownsRow.cellAt h' j hj];exact hu
set_option maxHeartbeats 8000000 in
theorem c_cells {w:World} {mb n:Nat} {M:List Sd} {L:List Ce} (p:Pi) (hM:MpS w mb n M) (hR:∀ s∈M,OwnC w 0 (slS s) s.L) (hL:AscC L) (hp:(allC M).Perm L) (lL:(allC M).length≤1048576) :
  Calls Tryz.prog 54 #[.agg #[.int .i64 p.a,.int .i64 p.b,.int .i64 p.c,.int .i64 p.d,.map (some mb)]] w fun e w'=>∃ v,e=.returned v∧OwnC w' w.heap.size v L∧Below w.heap.size w w':=by
 obtain ⟨i0,hi,hz0,hz1,hz2⟩:=infoCe;have al:Below w.heap.size w (w.alloc (.cells #[.int .i64 p.a,.int .i64 p.b,.int .i64 p.c,.int .i64 p.d,.map (some mb)] 82)):=(Below.refl _ _).alloc (Nat.le_refl _) _;obtain ⟨D,hown,hold⟩:=hM.past al;have HR:=hide (fun s hs=>(hR s hs).past al);have HT0:=hide al;have r4:(w.alloc (.cells #[.int .i64 p.a,.int .i64 p.b,.int .i64 p.c,.int .i64 p.d,.map (some mb)] 82)).cell? ⟨w.heap.size,4,none⟩=some (.map (some mb)):=cellKQ (heap_alloc_new w (.cells #[.int .i64 p.a,.int .i64 p.b,.int .i64 p.c,.int .i64 p.d,.map (some mb)] 82)) 4 rfl;have HD:=hide hown;have HHo:=hide hold;have HL:=hide hL;have HP:=hide hp;have LL:=hide lL;clear hM hR hL hp lL al hown hold;go_enter Tryz.func54,Tryz.ntmps54;go_upto_region 2 with fail;generalize w.alloc (.cells #[.int .i64 p.a,.int .i64 p.b,.int .i64 p.c,.int .i64 p.d,.map (some mb)] 82)=W0 at HD HR HT0 r4 ⊢
 have H0:Hid (∀ w0:World,w0.ranges Tryz.prog 9 rS mb W0.heap.size n D (Maps.has D) (Maps.size D)→W0.grownBy w0 none→LiS W0 mb M (.slice none 0 0) w0):=fun w0 q1 q2=>
  ⟨D,_,_,n,[],M,q1,HHo.out,RgS.start HHo.out,OwnC.nil _ _,(Below.refl _ W0).grown q2 (Nat.le_refl _) (fun j hj=>by cases hj)⟩
 have hbs:=HD.out.lt;have HBS:=hide hbs;clear hbs;go_wp2_with (at_range;refine wpList_range_own _ rfl _ 80 rfl 9 55 lawSh Tryz.underlying80 _ mb n _ rfl HD.out ?_;intro w0 hrg0 hg0 hs0;have HI:=hide (H0.out w0 hrg0 hg0);clear hrg0 hg0 hs0);clear r4
 go_frame
 go_loopw [3] (fun v wr=>Hid (LiS W0 mb M v wr)) (fun _ wr=>wr.rangeLeft mb W0.heap.size)
 case atStart=>exact HI
 case round=>
  clear HI H0 HD HHo;obtain ⟨D,left,cnt,n,A,R,hrg,hho,hrc,how,hbel⟩:=hrel.out;have HRg:=hide hrg;have HHo:=hide hho;have HRc:=hide hrc;have HOw:=hide how;have HBl:=hide hbel;clear hrel hrg hho hrc how hbel;go_wp2_with (at_next;refine wpList_next_ranges _ rfl _ rfl 9 lawSh rS Value.string Value.agg keyInvS (fun v y hv=>rS_inv hv) mb W0.heap.size n _ _ _ rfl HRg.out ?_ ?_)
  ·intro hc0 hl0
   have hpm:=(allC_perm (HRc.out.done hl0)).trans HP.out;have hlM:(allC A).length≤1048576:=by rw [hpm.length_eq,← HP.out.length_eq];exact LL.out
   have hcon:=c_sortCells HL.out hpm hlM HOw.out;have HC:=hide hcon;clear hc0 hl0 hpm hlM hcon;go_wp2_with (go_at_call 91;refine HC.out.mono ?_;rintro e w1 ⟨rfl,ho1,hb1,hg1⟩;have HF:=hide (And.intro ho1 (HBl.out.grown hg1 (Nat.le_trans (Nat.le_refl _) HBl.out.size) (fun j hj=>Nat.le_of_succ_le (World.ownsRow.lt HOw.out j hj).1)));clear ho1 hb1 hg1);go_ret;exact ⟨_,rfl,HF.out.1.le (Nat.le_trans HT0.out.size (Nat.le_succ _)),chain HT0.out HF.out.2⟩
  ·intro x cs kl y1 y2 w2 cnt2 hkey hlx hv hat hrg2 hlt hg2 hs2 hen
   obtain rfl:=keyLitS hkey;have hy:y1=.held (.agg cs):=by cases hv;rfl
   obtain ⟨c,q1,q3,R',hpR,hrc'⟩:=HRc.out.next HHo.out hlx hat;rw [hy] at q3;obtain rfl:=heldS_inj q3;subst q1;have hcM:c∈M:=hrc'.p.mem_iff.1 (List.mem_append_left _ (by simp));have HCr:=hide (HR.out c hcM);have HN:=hide (step_cells HRg.out HHo.out HBS.out HOw.out HBl.out LL.out HRc.out hrc' hrg2 hlt hg2);have al2:Below w2.heap.size w2 (w2.alloc (.cells (sdArr c) 55)):=(Below.refl _ _).alloc (Nat.le_refl _) _;have K1:=hide al2;have x1:(w2.alloc (.cells (sdArr c) 55)).cell? ⟨w2.heap.size,1,none⟩=some (.slice c.ao c.L.length c.cp):=cellKQ (heap_alloc_new w2 (.cells (sdArr c) 55)) 1 rfl;clear hkey hlx hv hat hrg2 hlt hg2 hs2 hy q3 hpR hrc' HRc HHo HOw al2 hcM;go_upto_region 5 with fail;clear hen;have HN3:=hide (HN.out _ K1.out);clear HN K1;generalize w2.alloc (.cells (sdArr c) 55)=W3 at HN3 x1 ⊢;have HSr:=hide (own_src (HCr.out.past HN3.out.2.2.2.1));clear HCr;go_wp2_with (at_builtin;refine wpList_append_nil _ rfl _ _ 36 rfl (W0.heap.size+1) 69 i0 (.agg zeroCe) 15 192 Tryz.underlying36 hi hz0 hz1 hz2 rfl (by decide) _ _ _ rfl HN3.out.1 c.ao c.L.length c.cp (flC c.L) rfl ?c0 HSr.out.1 HSr.out.2 (flC_oneC _) ?c3 ?c4 ?c5 ?_)
   case c0=>rw [flC_len]
   case c3=>have:=HN3.out.2.1;unfold maxLen;omega
   case c4=>have:=HN3.out.2.1;omega
   case c5=>exact HN3.out.2.2.1
   intro v' w1 hown' hgrow _;obtain ⟨f1,f2⟩:=HN3.out.2.2.2.2 _ _ _ rfl hown' hgrow;have HF1:=hide f1;have HF2:=hide f2;clear hown' hgrow f1 f2 HN3 x1 HSr;go_wp2;go_roundw
   case rel=>exact HF1
   case measure=>exact HF2.out
end Go.Proofs.YtmjogablacnlgaaGreatDoor
namespace Go.Proofs.YtmjogablacnlgaaGreatDoor
set_option linter.unusedVariables false
set_option linter.unusedSimpArgs false
open Go.ChangeShapes Go.WideShapes Go.ChangeAt Go.RowKit Go.PlainAid
set_option maxRecDepth 10000
theorem no_perm {L:List Ce} {n:Int} {s:ByteArray} (h:¬ HasK L n s):L.Perm (L.filter (loF n s) ++ L.filter (hiF n s)):=by
 have e:L.filter (fun c=>!loF n s c)=L.filter (hiF n s):=List.filter_congr (fun c hc=>by
  cases q:loF n s c
  ·cases q2:hiF n s c
   ·exact absurd (cAh_tot q q2) (fun e=>h ⟨c,hc,e⟩)
   ·rfl
  ·rw [show hiF n s c=false from cAh_ant q];rfl)
 have p:=List.filter_append_perm (loF n s) L;rw [e] at p;exact p.symm
theorem asc_ex:∀ {X:List Ce},(X.map (fun c=>(c.n,c.s))).Nodup→∃ L,AscC L∧X.Perm L
 | [],_=>⟨[],.nil,.nil⟩
 | c :: X,h=>by
  rw [List.map_cons,List.nodup_cons] at h;obtain ⟨L,hL,hp⟩:=asc_ex h.2;have hno:¬ HasK L c.n c.s:=fun ⟨d,hd,e1,e2⟩=>h.1 (List.mem_map.2 ⟨d,hp.mem_iff.2 hd,by rw [e1,e2]⟩);refine ⟨_,put_asc (c:=c) hL,(List.Perm.cons c hp).trans ?_⟩;refine (List.Perm.cons c (no_perm hno)).trans ?_;exact List.perm_middle.symm
theorem asc_nodup {L:List Ce} (h:AscC L):(L.map (fun c=>(c.n,c.s))).Nodup:=by
 refine List.pairwise_map.2 (h.ap.imp (fun {a b} q e=>q ?_));injection e with e1 e2;exact ⟨e1,e2⟩
theorem qs_nodup {S:List Sd} (q:QS S):∀ k,((allC (S.take k)).map (fun c=>(c.n,c.s))).Nodup
 | 0=>by simp [allC]
 | k+1=>by
  cases hs:S[k]? with
  | none=>rw [List.take_add_one,hs];simpa using qs_nodup q k
  | some s=>
   rw [allC_step hs,List.map_append];refine List.nodup_append.2 ⟨qs_nodup q k,asc_nodup (q.asc s (List.mem_of_getElem? hs)),fun a ha b hb e=>?_⟩;obtain ⟨d,hd,rfl⟩:=List.mem_map.1 ha;obtain ⟨c,hc,rfl⟩:=List.mem_map.1 hb;injection e with e1 e2;exact q.dj k s hs c hc ⟨d,hd,e1,e2⟩
theorem all_key {S M:List Sd} (h:M.map Sd.key=S.map Sd.key):(allC M).map Ce.key=(allC S).map Ce.key:=by
 have e:∀ L:List Sd,(allC L).map Ce.key=(L.map Sd.key).flatMap Prod.snd:=fun L=>by
  unfold allC;rw [List.map_flatMap,List.flatMap_map]
  rfl
 rw [e,e,h]
theorem kk_key {A B:List Ce} (h:A.map Ce.key=B.map Ce.key):A.map (fun c=>(c.n,c.s))=B.map (fun c=>(c.n,c.s)):=by
 have e:∀ L:List Ce,L.map (fun c=>(c.n,c.s))=(L.map Ce.key).map (fun x=>(x.1,x.2.1)):=fun L=>by rw [List.map_map];rfl
 rw [e,e,h]
theorem asc_same:∀ {L M:List Ce},AscC L→AscC M→(L.map Ce.key).Perm (M.map Ce.key)→L.map Ce.key=M.map Ce.key
 | [],M,_,_,p=>by
  have:=p.length_eq
  cases M with
  | nil=>rfl
  | cons _ _=>simp at this
 | c :: L,M,h,k,p=>by
  cases M with
  | nil=>have:=p.length_eq;simp at this
  | cons d M=>
   obtain ⟨h1,h2⟩:=List.pairwise_cons.1 h;obtain ⟨k1,k2⟩:=List.pairwise_cons.1 k
   have lt:∀ {a b:Ce} {x y:Ce},a.key=x.key→b.key=y.key→cAh a b=true→cAh x y=true:=fun {a b x y} e1 e2 q=>by
    obtain ⟨a1,a2,_⟩:=key3 e1;obtain ⟨b1,b2,_⟩:=key3 e2;unfold cAh at q ⊢;rw [← a1,← a2,← b1,← b2];exact q
   have e:c.key=d.key:=by
    have m1:c.key∈(d :: M).map Ce.key:=p.mem_iff.1 (by simp);have m2:d.key∈(c :: L).map Ce.key:=p.mem_iff.2 (by simp);rw [List.map_cons,List.mem_cons] at m1 m2;rcases m1 with m1 | m1
    ·exact m1
    ·rcases m2 with m2 | m2
     ·exact m2.symm
     ·obtain ⟨x,hx,ex⟩:=List.mem_map.1 m1
      obtain ⟨y,hy,ey⟩:=List.mem_map.1 m2;have q1:=lt (a:=d) (b:=x) rfl ex (k1 x hx);have q2:=lt (a:=c) (b:=y) rfl ey (h1 y hy);rw [cAh_ant q1] at q2
      cases q2
   rw [List.map_cons,List.map_cons,e] at p ⊢;rw [asc_same h2 k2 (List.Perm.cons_inv p)]
structure PcA (w w':World) (S:List Sd) (p:Pi) (v:Value) (R:List Ce):Prop where
 r:OwnC w' w.heap.size v R
 o:CesO w' w.heap.size R
 y:pipB S p=true→AscC R∧(R.map Ce.key).Perm ((allC S).map Ce.key)
 n:pipB S p=false→R=[]
 b:Below w.heap.size w w'
theorem pip_parts {S:List Sd} {p:Pi} (h:pipB S p=true):sdsB S=true∧PlP (fcS S) p.d (OwnAns (S.map Sd.nm)):=by
 unfold pipB at h;simp only [Bool.and_eq_true] at h;refine ⟨h.2.1,?_⟩;by_cases q:PlP (fcS S) p.d (OwnAns (S.map Sd.nm))
 ·exact q
 ·rw [plB_no q] at h;cases h.2.2
structure PpI (w:World) (ao:Option Addr) (N:Nat) (S:List Sd):Prop where
 n:S.length=N
 sm:SdsSm S
 ok:∀ s∈S,∀ c∈s.L,AgOk c.g∧c.s.size≤maxLen∧PlG c.g c.p
 at':SdsAt w ao S
theorem PpI.past {w w':World} {ao:Option Addr} {N:Nat} {S:List Sd} (h:PpI w ao N S) (hb:Below w.heap.size w w'):PpI w' ao N S:=⟨h.n,h.sm,h.ok,sds_past h.at' hb⟩
theorem PpI.qs {w:World} {ao:Option Addr} {N:Nat} {S:List Sd} {p:Pi} (h:PpI w ao N S) (hp:pipB S p=true):QS S:=
 qs_of (pip_parts hp).1 (fun s hs c hc=>⟨(h.ok s hs c hc).1,h.sm.sm s hs c hc,(h.ok s hs c hc).2.1,(h.ok s hs c hc).2.2⟩) (fun x hx=>((pip_parts hp).2.p x hx).2)
theorem sds_ap {S:List Sd} (h:sdsB S=true):S.Pairwise (fun s t=>s.nm≠t.nm):=by
 have hmb:membersB (S.map Sd.nm)=true:=(Bool.and_eq_true_iff.1 (by unfold sdsB at h;exact h)).1;refine List.pairwise_iff_getElem.2 (fun i j hi hj hij e=>?_);have n1:(S.map Sd.nm)[i]?=some S[i].nm:=by rw [List.getElem?_map,List.getElem?_eq_getElem hi];rfl
 have n2:(S.map Sd.nm)[i+(j - i - 1)+1]?=some S[j].nm:=by rw [show i+(j - i - 1)+1=j by omega,List.getElem?_map,List.getElem?_eq_getElem hj];rfl
 have lt:=memb_rise hmb n1 (j - i - 1) n2;rw [e,strLt_irr] at lt
 cases lt
end Go.Proofs.YtmjogablacnlgaaGreatDoor
