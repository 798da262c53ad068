/-
 Parts.
-/
import Derived.Test.YtdbaabbmcfnjbaaGreatDoorDZA
set_option linter.all false
namespace Go.Proofs.YtdbaabbmcfnjbaaGreatDoor
open Go.ChangeShapes Go.WideShapes Go.ChangeAt Go.RowKit Go.PlainAid Go.Lib Go.Maps
set_option maxRecDepth 10000
abbrev q0:Pi:=⟨0,0,0,0⟩
noncomputable def inK (K:List ByteArray) (u:ByteArray):Bool:=@decide (u∈K) (Classical.propDecidable _)
variable {K:List ByteArray}
variable {u:ByteArray}
theorem QfO (h:u∈K):inK K u=true:=by unfold inK;exact @ZZh _ (Classical.propDecidable _) h
theorem Qse (h:¬ u∈K):inK K u=false:=by unfold inK;exact @ZZg _ (Classical.propDecidable _) h
theorem inK_iff:inK K u=true↔u∈K:=by
 constructor
 ·intro h
  by_cases q:u∈K
  ·exact q
  ·rw [Qse q] at h;cases h
 ·exact QfO
noncomputable def mfC (S:List Sd) (p:Pi) (mm:ByteArray):Int:=if 20000<mm.size then 2 else if QaZ S p=false∨QaK mm=false then 1 else 0
theorem QfW {t:ByteArray}:∀ {l:List ByteArray},t ∉ l->(QcE l t).Perm (t :: l)
 | [],_=>.refl _
 | y :: r,h=>by
  unfold QcE
  split
  ·exact ((QfW (fun q=>h (ZZm _ q))).cons y).trans (.swap t y r)
  ·split
   ·rename_i q;exact absurd (by rw [q];simp) h
   ·exact .refl _
theorem Qjp {mm:ByteArray} (hK:Qaj K=true) (hm:mm ∉ K) (hl:K.length<12) (hn:QaK mm=true):Qaj (QcE K mm)=true:=by
 have hp:=QfW hm;have aa:=hp.length_eq;rw [List.length_cons] at aa;refine QkD (by omega) (by omega) (fun u hu=>?_) (Qf7 (QbQ hK));rcases mem_insT.1 hu with rfl | hu
 ·exact hn
 ·exact Qcc hK hu
variable {S:List Sd}
theorem Qb2 (h:QeB S=true):Qaj (S.map Sd.nm)=true:=(Bool.and_eq_true_iff.1 (by unfold QeB at h;exact h)).1
structure LvH (w:World) (mb n Bm:Nat) (M S:List Sd) (p:Pi):Prop where
 mp:MpS w mb n M
 n:n<=1000
 o:LvO w Bm M
 lt:mb<Bm
 bm:Bm<=w.heap.size
 ky:M.map Sd.key=S.map Sd.key
 q:QS S
 r:QaZ S p=true
section
variable {w W w':World} {mb n Bm:Nat} {M S:List Sd} {p:Pi}
end
def LvS (w w':World) (mb:Nat) (S:List Sd) (K:List ByteArray):Prop:=∃ n X L,MpS w' mb n X/\ShrL K L X/\LvO w' (mb+1) X/\Qck L/\(L.map Ce.key).Perm ((QaN S).map Ce.key)/\GrownS w w' (fun k=>k=mb)
def LvJ (w w':World) (mb:Nat) (S:List Sd) (K:List ByteArray) (c7:Int) (b7 b8:Bool) (cd:Int):Prop:=(b7=true/\cd=c7/\Below w.heap.size w w')∨(b7=false/\b8=true/\cd=8/\Below w.heap.size w w')∨(b7=false/\b8=false/\cd=0/\LvS w w' mb S K)
def Qbe (K:List ByteArray) (u:ByteArray):List ByteArray:=K.filter (fun x=>!(x.toList == u.toList))
theorem Qlg (h:u ∉ K):Qbe K u=K:=by
 refine List.filter_eq_self.2 (fun x hx=>?_)
 cases q:(x.toList == u.toList)
 ·rfl
 ·exact absurd (by rw [<- QbV q];exact hx) h
theorem QkJ {A R:List ByteArray} (h:(A ++ u :: R).Nodup):Qbe (A ++ u :: R) u=A ++ R:=by
 obtain ⟨_,h2,h3⟩:=List.nodup_append.1 h;obtain ⟨h4,_⟩:=List.nodup_cons.1 h2;have e1:Qbe A u=A:=Qlg (fun q=>h3 u q u (by simp) rfl);have e2:Qbe R u=R:=Qlg h4;unfold Qbe at e1 e2 ⊢;rw [List.filter_append,List.filter_cons,e1,e2];simp
def MbR (S:List Sd) (p:Pi) (mm:ByteArray) (c7:Int) (b7 b8:Bool) (K:List ByteArray) (q:Pi) (KM:List (ByteArray×List (Int×ByteArray×Ag))) (cd:Int):Prop:=
 if mfC S p mm≠0 then cd=mfC S p mm/\q=q0/\KM=[] else
 if b7=true then cd=c7/\q=q0/\KM=[] else
 if b8=true then cd=8/\q=q0/\KM=[] else
 cd=0/\q=p/\∃ L:List Ce,Qck L/\(L.map Ce.key).Perm ((QaN S).map Ce.key)/\KM=K.map (fun u=>(u,(L.filter (QcC K u)).map Ce.key))
def MbA (w:World) (S:List Sd) (p:Pi) (mm:ByteArray) (c7:Int) (b7 b8:Bool) (K:List ByteArray) (e:Ending) (w':World):Prop:=∃ a k c q M cd,e=.returned (.agg (QaI (.slice a k c) q (.slice none 0 0) cd))/\MbR S p mm c7 b7 b8 K q (M.map Sd.key) cd/\OwnD w' w.heap.size (.slice a k c) M/\LvO w' w.heap.size M/\Below w.heap.size w w'
variable {w wr:World}
theorem CpP.sets7 {M:List Sd} {v v0 v1 v2 v3 v4 v5 v6:Value} (far:∀ j,v.ownBlock=some j->w.heap.size+1+1<=j) (ho:LvO wr (w.heap.size+1+1) M) (h:CpP w wr S v M):CpP w (((((((wr.setCell ⟨w.heap.size+1,0,none⟩ v0).setCell ⟨w.heap.size+1,1,none⟩ v1).setCell ⟨w.heap.size+1,2,none⟩ v2).setCell ⟨w.heap.size+1,3,none⟩ v3).setCell ⟨w.heap.size+1,4,none⟩ v4).setCell ⟨w.heap.size+1,5,none⟩ v5).setCell ⟨w.heap.size+1,6,none⟩ v6) S v M:=by
 have st:∀ (W:World) (j:Nat) (u:Value),OwnD W w.heap.size v M->OwnD (W.setCell ⟨w.heap.size+1,j,none⟩ u) w.heap.size v M:=fun W j u o=>by
  refine World.ownsRow.kept o (Qal W _ j u) ?_
  cases q:v.ownBlock with
  | none=>exact .inl rfl
  | some i=>exact .inr (fun e=>by have:=far i q;injection e with e;omega)
 have sl:∀ (W:World) (j:Nat) (u:Value),LvO W (w.heap.size+1+1) M->LvO (W.setCell ⟨w.heap.size+1,j,none⟩ u) (w.heap.size+1+1) M:=fun W j u o=>o.grown (Qal W _ j u) (by omega);refine ⟨?_,LvO.le ?_ (by omega:w.heap.size<=w.heap.size+1+1),h.ky,?_⟩
 ·repeat (refine st _ _ _ ?_)
  exact h.r
 ·repeat (refine sl _ _ _ ?_)
  exact ho
 ·repeat (refine Below.setCell ?_ (by show _<=w.heap.size+1;omega) _)
  exact h.b
theorem QpO (hb:Below w.heap.size w wr):CpP w wr [] (.slice none 0 0) []:=⟨OwnD.nil _ _,LvO.nil _ _,rfl,hb⟩
end Go.Proofs.YtdbaabbmcfnjbaaGreatDoor
