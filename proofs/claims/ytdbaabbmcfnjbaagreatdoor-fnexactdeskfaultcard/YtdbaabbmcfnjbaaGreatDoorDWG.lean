/-
 Parts.
-/
import Derived.Test.YtdbaabbmcfnjbaaGreatDoorDWF
set_option linter.all false
namespace Go.Proofs.YtdbaabbmcfnjbaaGreatDoor
open Go.ChangeShapes Go.WideShapes Go.ChangeAt Go.RowKit Go.PlainAid Go.Lib Go.Maps
set_option maxRecDepth 10000
def stS (s:Sm) (now:Int):Sx:=⟨s.k,s.se,s.va,s.wd,s.wt,true,if s.td=true then (s.ti:Int) else now⟩
def QbX (S:List Sd) (win:Int) (se:ByteArray):Prop:=¬ Qfk (QaN S) win se/\(20<=Qe1 (QaN S) win∨60<=(QaN S).length)
def upS (o:ByteArray) (K:List (Int×ByteArray×Ag)) (S:List Sd):List (ByteArray×List (Int×ByteArray×Ag)):=S.map (fun t=>if (t.nm.toList == o.toList)=true then (t.nm,K) else t.key)
def LvX (S:List Sd) (p:Pi) (x:Sx) (KM:List (ByteArray×List (Int×ByteArray×Ag))) (cd:Int):Prop:=
 (x.ti / p.a<p.d/\cd=11/\KM=[])∨(¬ x.ti / p.a<p.d/\((p.c+p.a<x.ti/\cd=5/\KM=[])∨(¬ p.c+p.a<x.ti/\((QbX S (x.ti / p.a) x.se/\cd=8/\KM=[])∨(¬ QbX S (x.ti / p.a) x.se/\∃ o s R,QaR (S.map Sd.nm) x.se o/\s∈S/\s.nm=o/\PuA s.L (x.ti / p.a) x R cd/\((cd=0/\KM=upS o (R.map Ce.key) S)∨(cd≠0/\KM=[])))))))
def LiX (S:List Sd) (p:Pi) (t:ByteArray) (q:Pi) (KM:List (ByteArray×List (Int×ByteArray×Ag))) (KC:List (Int×ByteArray×Ag)) (cd:Int):Prop:=
 KC=[]/\((20000<t.size/\cd=2/\q=q0/\KM=[])∨(¬ 20000<t.size/\((QaZ S p=false/\cd=1/\q=q0/\KM=[])∨(QaZ S p=true/\∃ s,LnR t s/\((s.c≠0/\cd=s.c/\q=q0/\KM=[])∨(s.c=0/\LvX S p (stS s p.c) KM cd/\((cd=0/\q=p)∨(cd≠0/\q=q0))))))))
variable {o:ByteArray}
variable {s:Sd}
variable {A B R:List Ce}
section
variable {S T:List Sd} {p q q':Pi} {t:ByteArray} {s:Sm} {x:Sx} {KM KM':List (ByteArray×List (Int×ByteArray×Ag))} {KC KC':List (Int×ByteArray×Ag)} {cd cd':Int}
theorem LiX.big (h:20000<t.size):LiX S p t q0 (([]:List Sd).map Sd.key) (([]:List Ce).map Ce.key) 2:=⟨rfl,.inl ⟨h,rfl,rfl,rfl⟩⟩
theorem LiX.no (h:¬ 20000<t.size) (hp:QaZ S p=false):LiX S p t q0 (([]:List Sd).map Sd.key) (([]:List Ce).map Ce.key) 1:=⟨rfl,.inr ⟨h,.inl ⟨hp,rfl,rfl,rfl⟩⟩⟩
theorem LiX.code (h:¬ 20000<t.size) (hp:QaZ S p=true) (hL:LnR t s) (hc:s.c≠0):LiX S p t q0 (([]:List Sd).map Sd.key) (([]:List Ce).map Ce.key) s.c:=⟨rfl,.inr ⟨h,.inr ⟨hp,s,hL,.inl ⟨hc,rfl,rfl,rfl⟩⟩⟩⟩
theorem LiX.ill (h:¬ 20000<t.size) (hp:QaZ S p=true) (hL:LnR t s) (hc:s.c=0) (hv:LvX S p (stS s p.c) [] cd) (h0:cd≠0):LiX S p t q0 (([]:List Sd).map Sd.key) (([]:List Ce).map Ce.key) cd:=⟨rfl,.inr ⟨h,.inr ⟨hp,s,hL,.inr ⟨hc,hv,.inr ⟨h0,rfl⟩⟩⟩⟩⟩
theorem LiX.good {M:List Sd} (h:¬ 20000<t.size) (hp:QaZ S p=true) (hL:LnR t s) (hc:s.c=0) (hv:LvX S p (stS s p.c) (M.map Sd.key) 0):LiX S p t p (M.map Sd.key) (([]:List Ce).map Ce.key) 0:=⟨rfl,.inr ⟨h,.inr ⟨hp,s,hL,.inr ⟨hc,hv,.inl ⟨rfl,rfl⟩⟩⟩⟩⟩
theorem LvX.late (h:x.ti / p.a<p.d):LvX S p x [] 11:=.inl ⟨h,rfl,rfl⟩
theorem LvX.far (h:¬ x.ti / p.a<p.d) (h1:p.c+p.a<x.ti):LvX S p x [] 5:=.inr ⟨h,.inl ⟨h1,rfl,rfl⟩⟩
theorem LvX.full (h:¬ x.ti / p.a<p.d) (h1:¬ p.c+p.a<x.ti) (h2:QbX S (x.ti / p.a) x.se):LvX S p x [] 8:=.inr ⟨h,.inr ⟨h1,.inl ⟨h2,rfl,rfl⟩⟩⟩
theorem LvX.put {s:Sd} (h:¬ x.ti / p.a<p.d) (h1:¬ p.c+p.a<x.ti) (h2:¬ QbX S (x.ti / p.a) x.se) (ho:QaR (S.map Sd.nm) x.se o) (hs:s∈S) (hn:s.nm=o) (hp:PuA s.L (x.ti / p.a) x R 0):LvX S p x (upS o (R.map Ce.key) S) 0:=.inr ⟨h,.inr ⟨h1,.inr ⟨h2,o,s,R,ho,hs,hn,hp,.inl ⟨rfl,rfl⟩⟩⟩⟩
theorem LvX.bad {s:Sd} (h:¬ x.ti / p.a<p.d) (h1:¬ p.c+p.a<x.ti) (h2:¬ QbX S (x.ti / p.a) x.se) (ho:QaR (S.map Sd.nm) x.se o) (hs:s∈S) (hn:s.nm=o) (hp:PuA s.L (x.ti / p.a) x R cd) (hc:cd≠0):LvX S p x [] cd:=.inr ⟨h,.inr ⟨h1,.inr ⟨h2,o,s,R,ho,hs,hn,hp,.inr ⟨hc,rfl⟩⟩⟩⟩
end
section
variable {S M X:List Sd} {p:Pi} {x:Sx} {L R:List Ce} {n:Int} {cd:Int} {o se:ByteArray} {k:Nat} {s t:Sd}
theorem Qls (h:A.map Ce.key=B.map Ce.key) {c:Ce} (hc:c∈A):∃ d∈B,d.n=c.n/\d.s=c.s/\d.g=c.g:=Qku h hc
theorem Qma (h:(A.map Ce.key).Perm (B.map Ce.key)):Qfk A n se↔Qfk B n se:=by
 have aa:∀ {A B:List Ce},(A.map Ce.key).Perm (B.map Ce.key)->Qfk A n se->Qfk B n se:=fun {A B} h ⟨c,hc,e1,e2⟩=>by
  obtain ⟨d,hd,e⟩:=List.mem_map.1 (h.mem_iff.1 (List.mem_map_of_mem hc));obtain ⟨k1,k2,_⟩:=QnW e;exact ⟨d,hd,k1.trans e1,k2.trans e2⟩
 exact ⟨aa h,aa h.symm⟩
theorem QoC (h:(A.map Ce.key).Perm (B.map Ce.key)) (win:Int):Qe1 A win=Qe1 B win/\A.length=B.length:=by
 have f:∀ X:List Ce,Qe1 X win=(X.map Ce.key).countP (fun k=>decide (k.1=win)):=fun X=>by unfold Qe1;rw [List.countP_map];rfl
 refine ⟨by rw [f A,f B];exact h.countP_eq _,?_⟩;have:=h.length_eq;rw [List.length_map,List.length_map] at this;exact this
theorem Qhn (h:(R.map Ce.key).Perm ((QaN S).map Ce.key)):QbX S n se↔¬ Qfk R n se/\(20<=Qe1 R n∨60<=R.length):=by
 unfold QbX;rw [Qma h,(QoC h n).1,(QoC h n).2]
theorem PuA.keyX {L':List Ce} (h:PuA L n x R cd) (e:L'.map Ce.key=L.map Ce.key):PuA L' n x R cd:=by
 have hl:L'.length=L.length:=by have:=congrArg List.length e;rw [List.length_map,List.length_map] at this;exact this
 have pt:∀ {o:Ag} {R:List Ce},PtL L n x.se o R->PtL L' n x.se o R:=fun {o R} h=>by
  unfold PtL at h ⊢;rw [(QdW e).1,(QdW e).2];exact h
 have hk:¬ Qfk L n x.se->¬ Qfk L' n x.se:=fun h k=>h ((Qma (by rw [e])).1 k)
 cases h with
 | kind c hc k1 k2 hkk=>
  obtain ⟨d,hd,e1,e2,e3⟩:=Qls e.symm hc;exact .kind d hd (e1.trans k1) (e2.trans k2) (by rw [e3];exact hkk)
 | there c o R hc k1 k2 hkk hp hR=>
  obtain ⟨d,hd,e1,e2,e3⟩:=Qls e.symm hc;exact .there d o R hd (e1.trans k1) (e2.trans k2) (by rw [e3];exact hkk) (by rw [e3];exact hp) (pt hR)
 | full hn hl'=>exact .full (hk hn) (by omega)
 | new o R hn hl' hp hR=>exact .new o R (hk hn) (by omega) hp (pt hR)
def UpX (S:List Sd) (o:ByteArray) (n:Int) (x:Sx) (k:Nat) (X:List Sd):Prop:=∃ R:List Ce,(∀ s∈S.take k,s.nm=o->PuA s.L n x R 0)/\X.map Sd.key=upS o (R.map Ce.key) (S.take k)
theorem UpX.nil:UpX S o n x 0 []:=⟨[],by simp,rfl⟩
theorem nm_is {a b:ByteArray}:(a.toList == b.toList)=true↔a=b:=⟨fun h=>QbV h,fun h=>by rw [h];simp⟩
theorem QhA {K:List (Int×ByteArray×Ag)} (h:∀ s∈S,s.nm≠o):upS o K S=S.map Sd.key:=List.map_congr_left (fun s hs=>if_neg (fun q=>h s hs (nm_is.1 q)))
theorem UpX.skip (h:UpX S o n x k X) (hs:S[k]?=some s) (e:t.key=s.key) (hne:s.nm≠o):UpX S o n x (k+1) (X ++ [t]):=by
 obtain ⟨R,h1,h2⟩:=h;have et:S.take (k+1)=S.take k ++ [s]:=by rw [List.take_add_one,hs];rfl
 refine ⟨R,fun u hu eu=>?_,?_⟩
 ·rw [et] at hu
  rcases List.mem_append.1 hu with hu | hu
  ·exact h1 u hu eu
  ·rw [List.mem_singleton.1 hu] at eu;exact absurd eu hne
 ·rw [et,List.map_append,h2]
  unfold upS;rw [List.map_append,List.map_singleton,List.map_singleton,if_neg (fun q=>hne (nm_is.1 q)),e]
theorem UpX.step (ap:S.Pairwise (fun s t=>s.nm≠t.nm)) (h:UpX S o n x k X) (hs:S[k]?=some s) (hn:s.nm=o) (e:t.nm=o) (hp:PuA s.L n x R 0) (eR:t.L=R):UpX S o n x (k+1) (X ++ [t]):=by
 obtain ⟨R0,_,h2⟩:=h;have et:S.take (k+1)=S.take k ++ [s]:=by rw [List.take_add_one,hs];rfl
 have aa:∀ u∈S.take k,u.nm≠o:=fun u hu eu=>by
  obtain ⟨i,hi,rfl⟩:=List.mem_iff_getElem.1 hu;have ab:i<k:=by rw [List.length_take] at hi;omega
  obtain ⟨hk,rfl⟩:=ZZd.1 hs;rw [List.getElem_take] at eu;exact List.pairwise_iff_getElem.1 ap i k (by omega) hk ab (eu.trans hn.symm)
 refine ⟨R,fun u hu eu=>?_,?_⟩
 ·rw [et] at hu
  rcases List.mem_append.1 hu with hu | hu
  ·exact absurd eu (aa u hu)
  ·rw [List.mem_singleton.1 hu];exact hp
 ·rw [et,List.map_append,h2,QhA aa]
  unfold upS;rw [List.map_append,List.map_singleton,List.map_singleton,if_pos (nm_is.2 hn),<- QhA (K:=R.map Ce.key) aa];unfold upS;have:Sd.key t=(s.nm,R.map Ce.key):=by unfold Sd.key;rw [e,hn,eR]
  rw [this]
theorem UpX.fin {N:Nat} (h:UpX S o n x N X) (hN:S.length=N) (hn:n=x.ti / p.a) (h1:¬ x.ti / p.a<p.d) (h2:¬ p.c+p.a<x.ti) (h3:¬ QbX S (x.ti / p.a) x.se) (hm:Qaj (S.map Sd.nm)=true) (hz:x.se.size<=20000) (ho:QaR (S.map Sd.nm) x.se o):LvX S p x (X.map Sd.key) 0:=by
 subst hn;obtain ⟨R,k1,k2⟩:=h;rw [List.take_of_length_le (by omega)] at k1 k2;obtain ⟨s,hs,hn⟩:=List.mem_map.1 (Qnv hm hz ho);rw [k2];exact .put h1 h2 h3 ho hs hn (k1 s hs hn)
end
end Go.Proofs.YtdbaabbmcfnjbaaGreatDoor
