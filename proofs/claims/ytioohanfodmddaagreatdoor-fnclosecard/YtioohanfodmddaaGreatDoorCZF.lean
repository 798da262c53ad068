/-
 Parts.
-/
import Derived.Test.YtioohanfodmddaaGreatDoorCZA
set_option maxHeartbeats 2000000
set_option linter.all false
namespace Go.Proofs.YtioohanfodmddaaGreatDoor
open Go.ChangeShapes Go.WideShapes Go.ChangeAt Go.RowKit Go.PlainAid Go.Lib Go.Maps Tryz
set_option maxRecDepth 10000
abbrev q0:Pi:=⟨0,0,0,0⟩
noncomputable def inK (K:List ByteArray) (u:ByteArray):Bool:=@decide (u∈K) (Classical.propDecidable _)
variable {K:List ByteArray}
variable {u:ByteArray}
theorem Qp9 (h:u∈K):inK K u=true:=by unfold inK;exact @ZZh _ (Classical.propDecidable _) h
theorem inK_no (h:¬ u∈K):inK K u=false:=by unfold inK;exact @ZZg _ (Classical.propDecidable _) h
variable {w wr:World}
theorem QpN {mb:Nat} (p:Pi) (cd:Int) (hc:cd≠0) :
  Calls prog 39 #[.agg (Qbw p mb),.int .i64 cd] w fun e w'=>e=.returned (.agg (Qax (.slice none 0 0) q0 (.slice none 0 0) cd))/\Bw w w':=by
 have hb:(cd != 0)=true:=by simpa using hc
 have hd:decide (cd=0)=false:=ZZg hc;have HB:Hid (∀ o1 o2,Bw w ((w.alloc o1).alloc o2)):=fun o1 o2=>((Below.refl _ _).alloc (Nat.le_refl _) _).alloc oE _;go_enter func39,ntmps39;go_wp2;exact bodyPost_ret (v:=.agg (Qax (.slice none 0 0) q0 (.slice none 0 0) cd)) (by simp [results,results39,go_sem]) rfl ⟨rfl,HB.out _ _⟩
noncomputable def mfC (S:List Sd) (p:Pi) (mm:ByteArray):Int:=if 20000<mm.size then 2 else if Qbq S p=false∨QaF mm=false then 1 else 0
theorem QkB {t:ByteArray}:∀ {l:List ByteArray},t ∉ l->(QcI l t).Perm (t :: l)
 | [],_=>.refl _
 | y :: r,h=>by
  unfold QcI
  split
  ·exact ((QkB (fun q=>h (ZZm _ q))).cons y).trans (.swap t y r)
  ·split
   ·rename_i q;exact absurd (by rw [q];simp) h
   ·exact .refl _
theorem Qo2 {mm:ByteArray} (hK:Qaj K=true) (hm:mm ∉ K) (hl:K.length<12) (hn:QaF mm=true):Qaj (QcI K mm)=true:=by
 have hp:=QkB hm;have aa:=hp.length_eq;rw [List.length_cons] at aa;refine Qun oB oB (fun u hu=>?_) (Qhf (QeH hK));rcases mem_insT.1 hu with rfl | hu
 ·exact hn
 ·exact Qdo hK hu
variable {S:List Sd}
theorem QdV (h:Qev S=true):Qaj (S.map Sd.nm)=true:=(Bool.and_eq_true_iff.1 (by unfold Qev at h;exact h)).1
structure LvH (w:World) (mb n Bm:Nat) (M S:List Sd) (p:Pi):Prop where
 mp:MpS w mb n M
 n:n<=1000
 o:LvO w Bm M
 lt:mb<Bm
 bm:Bm<=w.heap.size
 ky:M.map Sd.key=S.map Sd.key
 q:QS S
 r:Qbq S p=true
section
variable {w W w':World} {mb n Bm:Nat} {M S:List Sd} {p:Pi}
theorem LvH.past (h:LvH w mb n Bm M S p) (hb:Bw w W):LvH W mb n Bm M S p:=⟨h.mp.past hb,h.n,h.o.past hb,h.lt,Nat.le_trans h.bm hb.size,h.ky,h.q,h.r⟩
theorem LvH.nm (h:LvH w mb n Bm M S p):M.map Sd.nm=S.map Sd.nm:=QqY h.ky
theorem LvH.len (h:LvH w mb n Bm M S p):M.length=S.length:=by
 have:=congrArg List.length h.ky;rw [yA,yA] at this;exact this
theorem LvH.memb (h:LvH w mb n Bm M S p):Qaj (M.map Sd.nm)=true:=by rw [h.nm];exact QdV (QaP h.r).1
theorem LvH.all (h:LvH w mb n Bm M S p):∃ L,AscC L/\(QaK M).Perm L/\(L.map Ce.key).Perm ((QaK S).map Ce.key)/\(QaK M).length<=720/\L.length<=720/\∀ c∈L,c.s.size<=100:=by
 have ad:((QaK M).map (fun c=>(c.n,c.s))).Nodup:=by
  rw [QmG (QcE h.ky)];have:=QeR h.q S.length;rw [List.take_length] at this;exact this
 obtain ⟨L,hL,ab⟩:=Qnj ad
 have aa:(QaK M).length<=720:=by
  have h1:=congrArg List.length (QcE h.ky);rw [yA,yA] at h1;have h2:=Qgh (S:=S) 60 h.q.l;have h3:=h.q.n;have:S.length*60<=12*60:=Nat.mul_le_mul_right _ h3;omega
 refine ⟨L,hL,ab,by rw [<- QcE h.ky];exact (ab.map _).symm,aa,by rw [<- ab.length_eq];exact aa,fun c hc=>?_⟩;obtain ⟨t,ht,ac⟩:=Qbt (ab.mem_iff.2 hc);obtain ⟨s,hs,_,e⟩:=Qey h.ky ht;obtain ⟨d,hd,_,e2,_⟩:=Qi4 e ac;have hr:=QcU (QaP h.r).1 hs;have:=(Qmi ((Qhh hr).2.1 d hd)).2;rw [<- e2];exact this
end
def LvS (w w':World) (mb:Nat) (S:List Sd) (K:List ByteArray):Prop:=∃ n X L,MpS w' mb n X/\ShrL K L X/\LvO w' (mb+1) X/\AscC L/\(L.map Ce.key).Perm ((QaK S).map Ce.key)/\GrownS w w' (fun k=>k=mb)
def LvJ (w w':World) (mb:Nat) (S:List Sd) (K:List ByteArray) (c7:Int) (b7 b8:Bool) (cd:Int):Prop:=(b7=true/\cd=c7/\Bw w w')∨(b7=false/\b8=true/\cd=8/\Bw w w')∨(b7=false/\b8=false/\cd=0/\LvS w w' mb S K)
def restK (K:List ByteArray) (u:ByteArray):List ByteArray:=K.filter (fun x=>!(x.toList == u.toList))
def MbR (S:List Sd) (p:Pi) (mm:ByteArray) (c7:Int) (b7 b8:Bool) (K:List ByteArray) (q:Pi) (KM:List (ByteArray×List (Int×ByteArray×Ag))) (cd:Int):Prop:=
 if mfC S p mm≠0 then cd=mfC S p mm/\q=q0/\KM=[] else
 if b7=true then cd=c7/\q=q0/\KM=[] else
 if b8=true then cd=8/\q=q0/\KM=[] else
 cd=0/\q=p/\∃ L:List Ce,AscC L/\(L.map Ce.key).Perm ((QaK S).map Ce.key)/\KM=K.map (fun u=>(u,(L.filter (Qd5 K u)).map Ce.key))
def MbA (w:World) (S:List Sd) (p:Pi) (mm:ByteArray) (c7:Int) (b7 b8:Bool) (K:List ByteArray) (e:Ending) (w':World):Prop:=∃ a k c q M cd,e=.returned (.agg (Qax (.slice a k c) q (.slice none 0 0) cd))/\MbR S p mm c7 b7 b8 K q (M.map Sd.key) cd/\OwnD w' w.heap.size (.slice a k c) M/\LvO w' w.heap.size M/\Bw w w'
theorem CpP.sets7 {M:List Sd} {v v0 v1 v2 v3 v4 v5 v6:Value} (far:∀ j,v.ownBlock=some j->w.heap.size+1+1<=j) (ho:LvO wr (w.heap.size+1+1) M) (h:CpP w wr S v M):CpP w (((((((wr.setCell ⟨w.heap.size+1,0,none⟩ v0).setCell ⟨w.heap.size+1,1,none⟩ v1).setCell ⟨w.heap.size+1,2,none⟩ v2).setCell ⟨w.heap.size+1,3,none⟩ v3).setCell ⟨w.heap.size+1,4,none⟩ v4).setCell ⟨w.heap.size+1,5,none⟩ v5).setCell ⟨w.heap.size+1,6,none⟩ v6) S v M:=by
 exact mAr
theorem Qoz (hb:Bw w wr):CpP w wr [] (.slice none 0 0) []:=⟨OwnD.nil _ _,LvO.nil _ _,rfl,hb⟩
theorem Qv2 (K:List ByteArray) (u:ByteArray) (n:Nat) (h:K.length+1<=n):(QcI K u).length<=n:=Nat.le_trans (QiW u K) h
end Go.Proofs.YtioohanfodmddaaGreatDoor
