/-
 Parts.
-/
import Derived.Test.YtdbaabbmcfnjbaaGreatDoorDWN
set_option linter.all false
namespace Go.Proofs.YtdbaabbmcfnjbaaGreatDoor
open Go.ChangeShapes Go.WideShapes Go.ChangeAt Go.RowKit Go.PlainAid Go.Lib Go.Maps
set_option maxRecDepth 10000
variable {c:Ce}
section
variable {S M:List Sd} {p q:Pi} {C:List Ce} {win:Int}
def rsS (win:Int) (S:List Sd):List Sd:=S.map (fun s=>{ s with L:=s.L.filter (fun c=>!isW win c) })
theorem Qox:(rsS win S).map Sd.key=S.map (Qjv win):=by unfold rsS;rw [List.map_map];rfl
theorem QsP:(rsS win S).map Sd.nm=S.map Sd.nm:=by unfold rsS;rw [List.map_map];rfl
theorem QiD:∀ S:List Sd,fcS (rsS win S)=(fcS S).filter (fun x=>!isW win x.2)
 | []=>rfl
 | s :: S=>by
  show fcS (_ :: rsS win S)=_
  rw [Qd9,Qd9,QiD S,List.filter_append,List.filter_map]
  rfl
theorem Qu5:QaN (rsS win S)=(QaN S).filter (fun c=>!isW win c):=by
 rw [<- QbU,<- QbU,QiD,List.filter_map]
 rfl
theorem notW (h:(!isW win c)=true):c.n≠win:=by
 unfold isW at h
 simpa using h
theorem Qru (hp:QaZ S p=true) (hc:¬ p.c<(p.d+1)*p.a+p.b):QaZ (rsS p.d S) ⟨p.a,p.b,p.c,p.d+1⟩=true:=by
 obtain ⟨hs,aa⟩:=QaE hp;obtain ⟨a1,a2,b1,b2,c1,c2,d1,d2⟩:=Qcj hp;have hd:(p.d+1)*1<=(p.d+1)*p.a:=Int.mul_le_mul_of_nonneg_left a1 (by omega);unfold QaZ;rw [Bool.and_eq_true,Bool.and_eq_true];refine ⟨?_,?_,QdY ⟨?_,fun w=>?_,fun x hx=>?_⟩⟩
 ·unfold Qlv inB
  simp only [Bool.and_eq_true,decide_eq_true_eq];omega
 ·unfold QeB
  rw [QsP,Qb2 hs,Bool.true_and];refine List.all_eq_true.2 (fun t ht=>?_);obtain ⟨s,hm,rfl⟩:=List.mem_map.1 ht;have h:=Qcz hs hm;unfold shB at h ⊢;rw [Bool.and_eq_true] at h ⊢;obtain ⟨z1,z2,z3⟩:=csR_iff.1 h.2;refine ⟨h.1,csR_iff.2 ⟨?_,fun c hc=>z2 c (List.mem_filter.1 hc).1,z3.sublist List.filter_sublist⟩⟩;have:=List.length_filter_le (fun c=>!isW p.d c) s.L
  show (s.L.filter (fun c=>!isW p.d c)).length<=60
  omega
 ·rw [QiD]
  have:=List.length_filter_le (fun x:ByteArray×Ce=>!isW p.d x.2) (fcS S);have:=aa.l;omega
 ·rw [QiD]
  exact Nat.le_trans (List.filter_sublist.countP_le) (aa.c w)
 ·rw [QiD] at hx
  obtain ⟨h1,h2⟩:=List.mem_filter.1 hx;obtain ⟨h3,h4⟩:=aa.p x h1;have:=notW h2;exact ⟨by show p.d+1<=x.2.n;omega,by rw [QsP];exact h4⟩
structure ClG (S M:List Sd) (p q:Pi) (C:List Ce):Prop where
 r:QaZ S p=true
 t:¬ p.c<(p.d+1)*p.a+p.b
 qe:q=⟨p.a,p.b,p.c,p.d+1⟩
 ok:QaZ M q=true
 asc:Qck C
 w:∀ c∈C,c.n=p.d
 ri:csR C=true
 g:GdK 1 (M.map Sd.key)
 pm:(C.map Ce.key ++ (QaN M).map Ce.key).Perm ((QaN S).map Ce.key)
 l:(QaN S).length<=60
 cs:∀ c∈C,AgOk c.g/\AgSm c.g/\c.s.size<=maxLen
 nw:∀ k∈(QaN M).map Ce.key,k.1≠p.d
theorem Qj8 {A B:List Ce} (h:(A.map Ce.key).Perm (B.map Ce.key)) (hc:c∈A):∃ d∈B,d.key=c.key:=by
 obtain ⟨d,hd,e⟩:=List.mem_map.1 (h.mem_iff.1 (List.mem_map_of_mem hc));exact ⟨d,hd,e⟩
theorem all_cR (hp:QaZ S p=true) (hc:c∈QaN S):cRi c=true:=by
 obtain ⟨s,hs,aa⟩:=Qbq hc;have h:=Qcz (QaE hp).1 hs;unfold shB at h;exact (csR_iff.1 (Bool.and_eq_true_iff.1 h).2).2.1 c aa
theorem ClR.cl (g:GdK 1 (S.map Sd.key)) (h:ClR S p q (M.map Sd.key) (C.map Ce.key) 0):ClG S M p q C:=by
 unfold ClR at h
 split at h
 ·exact absurd h.1 (by decide)
 rename_i c1
 split at h
 ·exact absurd h.1 (by decide)
 rename_i c2;have hp:QaZ S p=true:=by simpa using c1
 obtain ⟨_,h2,h3,D,hD,ad,hk⟩:=h;have ek:M.map Sd.key=(rsS p.d S).map Sd.key:=by rw [Qox];exact h3
 have ab:(QaN S).length<=60:=by rw [<- QbU,List.length_map];exact (QaE hp).2.l
 have ac:Qck C:=QeM hk hD;have pk:(C.map Ce.key).Perm (((QaN S).filter (isW p.d)).map Ce.key):=by rw [hk];exact ad
 have am:(QaN M).map Ce.key=((QaN S).filter (fun c=>!isW p.d c)).map Ce.key:=by rw [Qpf ek,Qu5]
 have hl:C.length<=60:=by
  have h1:=pk.length_eq;rw [List.length_map,List.length_map] at h1;have:=List.length_filter_le (isW p.d) (QaN S);omega
 refine ⟨hp,c2,h2,?_,ac,fun c hc=>?_,csR_iff.2 ⟨hl,fun c hc=>?_,ac⟩,?_,?_,ab,fun c hc=>?_,fun k hk=>?_⟩
 ·rw [Qep ek,h2];exact Qru hp c2
 ·obtain ⟨d,hd,e⟩:=Qj8 pk hc
  have:=(List.mem_filter.1 hd).2;unfold isW at this;rw [<- (QnW e).1]
  simpa using this
 ·obtain ⟨d,hd,e⟩:=Qj8 pk hc
  rw [<- QhN e];exact all_cR hp (List.mem_filter.1 hd).1
 ·rw [ek,Qox]
  refine ⟨by have:=g.1;simpa using this,fun x hx=>?_⟩;obtain ⟨s,hs,rfl⟩:=List.mem_map.1 hx;obtain ⟨g1,g2,g3⟩:=g.sh hs;refine ⟨g1,?_,fun k hk=>?_⟩
  ·have:=List.length_filter_le (fun c=>!isW p.d c) s.L
   show (((s.L.filter (fun c=>!isW p.d c)).map Ce.key).length:Int)<=300+1
   rw [List.length_map];omega
  ·obtain ⟨d,hd,rfl⟩:=List.mem_map.1 hk
   exact g3 d (List.mem_filter.1 hd).1
 ·rw [am]
  refine (List.Perm.append_right _ pk).trans ?_;rw [<- List.map_append];exact (List.filter_append_perm (isW p.d) (QaN S)).map _
 ·obtain ⟨d,hd,e⟩:=Qj8 pk hc
  obtain ⟨s,hs,aa⟩:=Qbq (List.mem_filter.1 hd).1;have h:=(g.sh hs).2.2 d aa;obtain ⟨_,e2,e3⟩:=QnW e;rw [<- e2,<- e3];exact h
 ·rw [am] at hk
  obtain ⟨d,hd,rfl⟩:=List.mem_map.1 hk;exact notW (List.mem_filter.1 hd).2
end
end Go.Proofs.YtdbaabbmcfnjbaaGreatDoor
