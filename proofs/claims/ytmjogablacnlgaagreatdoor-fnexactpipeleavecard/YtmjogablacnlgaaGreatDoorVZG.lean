/-
 join and leave of a live pipe.
-/
import Derived.Test.YtmjogablacnlgaaGreatDoorVZF
import Derived.Test.YtmjogablacnlgaaGreatDoorVYO
namespace Go.Proofs.YtmjogablacnlgaaGreatDoor
set_option linter.unusedVariables false
set_option linter.unusedSimpArgs false
open Go.ChangeShapes Go.WideShapes Go.ChangeAt Go.RowKit Go.PlainAid Go.Lib Go.Maps
set_option maxRecDepth 10000
theorem perm_lift {α β:Type} {f:α→β} {K B:List β} (h:K.Perm B):∀ {L:List α},B=L.map f→∃ T:List α,T.Perm L∧T.map f=K:=by
 induction h with
 | nil=>intro L e;exact ⟨[],by cases L with | nil=>exact .nil | cons _ _=>simp at e,rfl⟩
 | cons x _ ih=>
  intro L e
  cases L with
  | nil=>simp at e
  | cons a L=>
   simp only [List.map_cons,List.cons.injEq] at e;obtain ⟨T,h1,h2⟩:=ih e.2;exact ⟨a :: T,h1.cons a,by rw [List.map_cons,h2,e.1]⟩
 | swap x y l=>
  intro L e
  cases L with
  | nil=>simp at e
  | cons a L=>
   cases L with
   | nil=>simp at e
   | cons b L=>
    simp only [List.map_cons,List.cons.injEq] at e;exact ⟨b :: a :: L,.swap a b L,by rw [List.map_cons,List.map_cons,← e.1,← e.2.1,← e.2.2]⟩
 | trans _ _ ih1 ih2=>
  intro L e;obtain ⟨T,h1,h2⟩:=ih2 e;obtain ⟨T',h3,h4⟩:=ih1 h2.symm;exact ⟨T',h3.trans h1,h4⟩
theorem insT_perm {t:ByteArray}:∀ {l:List ByteArray},t ∉ l→(insT l t).Perm (t :: l)
 | [],_=>.refl _
 | y :: r,h=>by
  unfold insT
  split
  ·exact ((insT_perm (fun q=>h (List.mem_cons_of_mem _ q))).cons y).trans (.swap t y r)
  ·split
   ·rename_i q;exact absurd (by rw [q];simp) h
   ·exact .refl _
theorem ins_membT {K:List ByteArray} {mm:ByteArray} (hK:membersB K=true) (hm:mm ∉ K) (hl:K.length<12) (hn:nameB mm=true):membersB (insT K mm)=true:=by
 have hp:=insT_perm hm;have hlen:=hp.length_eq;rw [List.length_cons] at hlen;refine memb_mk (by omega) (by omega) (fun u hu=>?_) (rise_insT (memb_pair hK));rcases mem_insT.1 hu with rfl | hu
 ·exact hn
 ·exact memb_name hK hu
theorem sds_memB {S:List Sd} (h:sdsB S=true):membersB (S.map Sd.nm)=true:=(Bool.and_eq_true_iff.1 (by unfold sdsB at h;exact h)).1
structure LvH (w:World) (mb n Bm:Nat) (M S:List Sd) (p:Pi):Prop where
 mp:MpS w mb n M
 n:n≤1000
 o:LvO w Bm M
 lt:mb<Bm
 bm:Bm≤w.heap.size
 ky:M.map Sd.key=S.map Sd.key
 q:QS S
 r:pipB S p=true
section
variable {w W w':World} {mb n Bm:Nat} {M S:List Sd} {p:Pi}
theorem LvH.past (h:LvH w mb n Bm M S p) (hb:Below w.heap.size w W):LvH W mb n Bm M S p:=⟨h.mp.past hb,h.n,h.o.past hb,h.lt,Nat.le_trans h.bm hb.size,h.ky,h.q,h.r⟩
theorem LvH.nm (h:LvH w mb n Bm M S p):M.map Sd.nm=S.map Sd.nm:=nm_key h.ky
theorem LvH.len (h:LvH w mb n Bm M S p):M.length=S.length:=by
 have:=congrArg List.length h.ky;rw [List.length_map,List.length_map] at this;exact this
theorem LvH.memb (h:LvH w mb n Bm M S p):membersB (M.map Sd.nm)=true:=by rw [h.nm];exact sds_memB (pip_parts h.r).1
theorem LvH.all (h:LvH w mb n Bm M S p):∃ L,AscC L∧(allC M).Perm L∧(L.map Ce.key).Perm ((allC S).map Ce.key)∧(allC M).length≤720∧L.length≤720∧∀ c∈L,c.s.size≤100:=by
 have hnd:((allC M).map (fun c=>(c.n,c.s))).Nodup:=by
  rw [kk_key (all_key h.ky)];have:=qs_nodup h.q S.length;rw [List.take_length] at this;exact this
 obtain ⟨L,hL,hpm⟩:=asc_ex hnd
 have hlen:(allC M).length≤720:=by
  have h1:=congrArg List.length (all_key h.ky);rw [List.length_map,List.length_map] at h1;have h2:=allC_len (S:=S) 60 h.q.l;have h3:=h.q.n;have:S.length*60≤12*60:=Nat.mul_le_mul_right _ h3;omega
 refine ⟨L,hL,hpm,by rw [← all_key h.ky];exact (hpm.map _).symm,hlen,by rw [← hpm.length_eq];exact hlen,fun c hc=>?_⟩;obtain ⟨t,ht,hct⟩:=mem_allC (hpm.mem_iff.2 hc);obtain ⟨s,hs,_,e⟩:=sds_mem h.ky ht;obtain ⟨d,hd,_,e2,_⟩:=ces_mem e hct;have hr:=sdsB_sh (pip_parts h.r).1 hs;have:=(cRi_of ((shB_of hr).2.1 d hd)).2;rw [← e2];exact this
end
def LvS (w w':World) (mb:Nat) (S:List Sd) (K:List ByteArray):Prop:=∃ n X L,MpS w' mb n X∧ShrL K L X∧LvO w' (mb+1) X∧AscC L∧(L.map Ce.key).Perm ((allC S).map Ce.key)∧GrownS w w' (fun k=>k=mb)
def LvJ (w w':World) (mb:Nat) (S:List Sd) (K:List ByteArray) (c7:Int) (b7 b8:Bool) (cd:Int):Prop:=(b7=true∧cd=c7∧Below w.heap.size w w')∨(b7=false∧b8=true∧cd=8∧Below w.heap.size w w')∨(b7=false∧b8=false∧cd=0∧LvS w w' mb S K)
theorem lenS {w:World} {mb n:Nat} {M:List Sd} (h:MpS w mb n M) (ty:TypeId):(Builtin.len_ #[80] ty #[.map (some mb)]).run Tryz.prog w=.ok (.int .i64 (M.length:Int)) w:=by
 obtain ⟨D,hD,hH⟩:=h;have:=hD.len Tryz.underlying80 ty;rw [hH.sz] at this;exact this
theorem LvS.of {w w3 w4 w5:World} {mb Bm:Nat} {S M:List Sd} {K:List ByteArray} {L:List Ce} {m:Nat} (ho:CesO w Bm (allC M)) (hlt:mb<Bm) (hmw:mb<w.heap.size) (hpm:(allC M).Perm L) (hA:AscC L) (hK:(L.map Ce.key).Perm ((allC S).map Ce.key)) (hr:RiseT K) (hb3:Below w.heap.size w w3) (hg:w3.grownBy w4 (some mb)) (hP:SrP w4 w5 mb K L m):LvS w w5 mb S K:=by
 obtain ⟨n',X,_,hM,hX,hrow,hap,hgS⟩:=hP;have g1:GrownS w w4 (fun k=>k=mb):=((GrownS.ofBelow hb3).trans (grS hg)).weak (fun k q=>q.elim (fun f=>f.elim) (fun e=>by injection e with e;exact e.symm));have g2:GrownS w w5 (fun k=>k=mb):=(g1.trans hgS).weak (fun k q=>q.elim id id);have hc:CesO w5 (mb+1) L:=((ho.perm hpm).keptS g2 (fun c hc k q e=>by have:=((ho.perm hpm).o c hc).lt q;omega)).le (by omega);have hz:=g1.size;refine ⟨n',X,L,hM,hX,hX.own hr (fun s hs=>(hrow s hs).le (by omega)) hap hc,hA,hK,g2⟩
end Go.Proofs.YtmjogablacnlgaaGreatDoor
