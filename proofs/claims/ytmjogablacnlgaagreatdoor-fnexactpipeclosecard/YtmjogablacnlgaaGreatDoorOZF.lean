/-
 has, answer of a live pipe; memberFault; what comes of a member that comes or leaves.
-/
import Derived.Test.YtmjogablacnlgaaGreatDoorOZA
import Derived.Test.YtmjogablacnlgaaGreatDoorOZO
namespace Go.Proofs.YtmjogablacnlgaaGreatDoor
set_option linter.unusedVariables false
set_option linter.unusedSimpArgs false
open Go.ChangeShapes Go.WideShapes Go.ChangeAt Go.RowKit Go.PlainAid Go.Lib Go.Maps
set_option maxRecDepth 10000
abbrev q0:Pi:=⟨0,0,0,0⟩
noncomputable def inK (K:List ByteArray) (u:ByteArray):Bool:=@decide (u∈K) (Classical.propDecidable _)
noncomputable def mfC (S:List Sd) (p:Pi) (mm:ByteArray):Int:=if 20000<mm.size then 2 else if pipB S p=false∨nameB mm=false then 1 else 0
theorem sds_memB {S:List Sd} (h:sdsB S=true):membersB (S.map Sd.nm)=true:=(Bool.and_eq_true_iff.1 (by unfold sdsB at h;exact h)).1
structure LvH (w:World) (mb n Bm:Nat) (M S:List Sd) (p:Pi):Prop where
 mp:MpS w mb n M
 n:n≤1000
 o:LvO w Bm M
 lt:mb<Bm
 bm:Bm≤w.heap.size
 ky:M.map Sd.key=S.map Sd.key
 q:QS S
 r:pipB S p=true
section
variable {w W w':World} {mb n Bm:Nat} {M S:List Sd} {p:Pi}
theorem LvH.past (h:LvH w mb n Bm M S p) (hb:Below w.heap.size w W):LvH W mb n Bm M S p:=⟨h.mp.past hb,h.n,h.o.past hb,h.lt,Nat.le_trans h.bm hb.size,h.ky,h.q,h.r⟩
theorem LvH.nm (h:LvH w mb n Bm M S p):M.map Sd.nm=S.map Sd.nm:=nm_key h.ky
theorem LvH.len (h:LvH w mb n Bm M S p):M.length=S.length:=by
 have:=congrArg List.length h.ky;rw [List.length_map,List.length_map] at this;exact this
theorem LvH.memb (h:LvH w mb n Bm M S p):membersB (M.map Sd.nm)=true:=by rw [h.nm];exact sds_memB (pip_parts h.r).1
theorem LvH.all (h:LvH w mb n Bm M S p):∃ L,AscC L∧(allC M).Perm L∧(L.map Ce.key).Perm ((allC S).map Ce.key)∧(allC M).length≤720∧L.length≤720∧∀ c∈L,c.s.size≤100:=by
 have hnd:((allC M).map (fun c=>(c.n,c.s))).Nodup:=by
  rw [kk_key (all_key h.ky)];have:=qs_nodup h.q S.length;rw [List.take_length] at this;exact this
 obtain ⟨L,hL,hpm⟩:=asc_ex hnd
 have hlen:(allC M).length≤720:=by
  have h1:=congrArg List.length (all_key h.ky);rw [List.length_map,List.length_map] at h1;have h2:=allC_len (S:=S) 60 h.q.l;have h3:=h.q.n;have:S.length*60≤12*60:=Nat.mul_le_mul_right _ h3;omega
 refine ⟨L,hL,hpm,by rw [← all_key h.ky];exact (hpm.map _).symm,hlen,by rw [← hpm.length_eq];exact hlen,fun c hc=>?_⟩;obtain ⟨t,ht,hct⟩:=mem_allC (hpm.mem_iff.2 hc);obtain ⟨s,hs,_,e⟩:=sds_mem h.ky ht;obtain ⟨d,hd,_,e2,_⟩:=ces_mem e hct;have hr:=sdsB_sh (pip_parts h.r).1 hs;have:=(cRi_of ((shB_of hr).2.1 d hd)).2;rw [← e2];exact this
end
def LvS (w w':World) (mb:Nat) (S:List Sd) (K:List ByteArray):Prop:=∃ n X L,MpS w' mb n X∧ShrL K L X∧LvO w' (mb+1) X∧AscC L∧(L.map Ce.key).Perm ((allC S).map Ce.key)∧GrownS w w' (fun k=>k=mb)
def LvJ (w w':World) (mb:Nat) (S:List Sd) (K:List ByteArray) (c7:Int) (b7 b8:Bool) (cd:Int):Prop:=(b7=true∧cd=c7∧Below w.heap.size w w')∨(b7=false∧b8=true∧cd=8∧Below w.heap.size w w')∨(b7=false∧b8=false∧cd=0∧LvS w w' mb S K)
def restK (K:List ByteArray) (u:ByteArray):List ByteArray:=K.filter (fun x=>!(x.toList == u.toList))
def MbR (S:List Sd) (p:Pi) (mm:ByteArray) (c7:Int) (b7 b8:Bool) (K:List ByteArray) (q:Pi) (KM:List (ByteArray×List (Int×ByteArray×Ag))) (cd:Int):Prop:=
 if mfC S p mm≠0 then cd=mfC S p mm∧q=q0∧KM=[] else
 if b7=true then cd=c7∧q=q0∧KM=[] else
 if b8=true then cd=8∧q=q0∧KM=[] else
 cd=0∧q=p∧∃ L:List Ce,AscC L∧(L.map Ce.key).Perm ((allC S).map Ce.key)∧KM=K.map (fun u=>(u,(L.filter (ownB K u)).map Ce.key))
def MbA (w:World) (S:List Sd) (p:Pi) (mm:ByteArray) (c7:Int) (b7 b8:Bool) (K:List ByteArray) (e:Ending) (w':World):Prop:=∃ a k c q M cd,e=.returned (.agg (poArr (.slice a k c) q (.slice none 0 0) cd))∧MbR S p mm c7 b7 b8 K q (M.map Sd.key) cd∧OwnD w' w.heap.size (.slice a k c) M∧LvO w' w.heap.size M∧Below w.heap.size w w'
theorem CpP.sets7 {w wr:World} {S M:List Sd} {v v0 v1 v2 v3 v4 v5 v6:Value} (far:∀ j,v.ownBlock=some j→w.heap.size+1+1≤j) (ho:LvO wr (w.heap.size+1+1) M) (h:CpP w wr S v M):CpP w (((((((wr.setCell ⟨w.heap.size+1,0,none⟩ v0).setCell ⟨w.heap.size+1,1,none⟩ v1).setCell ⟨w.heap.size+1,2,none⟩ v2).setCell ⟨w.heap.size+1,3,none⟩ v3).setCell ⟨w.heap.size+1,4,none⟩ v4).setCell ⟨w.heap.size+1,5,none⟩ v5).setCell ⟨w.heap.size+1,6,none⟩ v6) S v M:=by
 have st:∀ (W:World) (j:Nat) (u:Value),OwnD W w.heap.size v M→OwnD (W.setCell ⟨w.heap.size+1,j,none⟩ u) w.heap.size v M:=fun W j u o=>by
  refine World.ownsRow.kept o (grown_one W _ j u) ?_
  cases q:v.ownBlock with
  | none=>exact .inl rfl
  | some i=>exact .inr (fun e=>by have:=far i q;injection e with e;omega)
 have sl:∀ (W:World) (j:Nat) (u:Value),LvO W (w.heap.size+1+1) M→LvO (W.setCell ⟨w.heap.size+1,j,none⟩ u) (w.heap.size+1+1) M:=fun W j u o=>o.grown (grown_one W _ j u) (by omega);refine ⟨?_,LvO.le ?_ (by omega:w.heap.size≤w.heap.size+1+1),h.ky,?_⟩
 ·repeat (refine st _ _ _ ?_)
  exact h.r
 ·repeat (refine sl _ _ _ ?_)
  exact ho
 ·repeat (refine Below.setCell ?_ (by show _≤w.heap.size+1;omega) _)
  exact h.b
theorem nilP {w wr:World} (hb:Below w.heap.size w wr):CpP w wr [] (.slice none 0 0) []:=⟨OwnD.nil _ _,LvO.nil _ _,rfl,hb⟩
end Go.Proofs.YtmjogablacnlgaaGreatDoor
