/-
 Parts.
-/
import Derived.Test.YtandnmpllheniaaGreatDoorCPJ
set_option linter.all false
namespace Go.Proofs.YtandnmpllheniaaGreatDoor
open Go.ChangeShapes Go.WideShapes Go.ChangeAt Go.RowKit Go.PlainAid Go.Lib Go.Maps
set_option maxRecDepth 10000
def MsA (A:List Ce) (c:Ce) (R:List Ce):Prop:=
 (∃ d o,d∈A/\d.n=c.n/\d.s=c.s/\d.g.k=c.g.k/\AgMrg d.g c.g o/\PtL A c.n c.s o R)∨(¬ Qds A c.n c.s/\PtL A c.n c.s c.g R)
def MsB (A:List Ce) (c:Ce):Prop:=∃ d∈A,d.n=c.n/\d.s=c.s/\¬ d.g.k=c.g.k
inductive Mgs (A:List Ce):List Ce->List Ce->Prop
 | nil (R:List Ce) (h:R.map Ce.key=A.map Ce.key):Mgs A [] R
 | snoc (B R R':List Ce) (c:Ce) (h:Mgs A B R) (s:MsA R c R'):Mgs A (B ++ [c]) R'
theorem Qkl {A R:List Ce} {n:Int} {s:ByteArray} {o:Ag} (h:PtL A n s o R) (a:AscC A):AscC R:=by
 refine Qfz (L:=A.filter (loF n s) ++ ⟨n,s,o,⟨none,0,none,0,none,0,none,0⟩⟩ :: A.filter (hiF n s)) ?_ (Qky (c:=⟨n,s,o,⟨none,0,none,0,none,0,none,0⟩⟩) a);rw [List.map_append,List.map_cons];exact h
theorem MsA.asc {A R:List Ce} {c:Ce} (h:MsA A c R) (a:AscC A):AscC R:=by
 rcases h with ⟨d,o,_,_,_,_,_,h⟩ | ⟨_,h⟩
 ·exact Qkl h a
 ·exact Qkl h a
theorem Mgs.asc {A B R:List Ce} (h:Mgs A B R) (a:AscC A):AscC R:=by
 induction h with
 | nil R h=>exact Qfz h a
 | snoc B R R' c h s ih=>exact s.asc ih
theorem key3 {c d:Ce} (h:c.key=d.key):c.n=d.n/\c.s=d.s/\c.g=d.g:=by
 unfold Ce.key at h;simp only [Prod.mk.injEq] at h;exact h
theorem Qlj {A A2 R R2:List Ce} {n:Int} {s:ByteArray} {o:Ag} (h:PtL A n s o R) (k:A.map Ce.key=A2.map Ce.key) (r:R2.map Ce.key=R.map Ce.key):PtL A2 n s o R2:=by
 have:=h.key k;unfold PtL at this ⊢;rw [r];exact this
theorem MsA.keys {A A2 R R2:List Ce} {c c2:Ce} (h:MsA A c R) (k:A.map Ce.key=A2.map Ce.key) (e:c.key=c2.key) (r:R2.map Ce.key=R.map Ce.key):MsA A2 c2 R2:=by
 obtain ⟨e1,e2,e3⟩:=key3 e;rcases h with ⟨d,o,hd,h1,h2,h3,h4,h5⟩ | ⟨h1,h5⟩
 ·obtain ⟨d',aa,q1,q2,q3⟩:=Qcw k hd
  refine .inl ⟨d',o,aa,by rw [q1,h1,e1],by rw [q2,h2,e2],by rw [q3,h3,e3],by rw [q3,<- e3];exact h4,?_⟩;rw [<- e1,<- e2];exact Qlj h5 k r
 ·refine .inr ⟨fun q=>h1 ?_,?_⟩
  ·rw [<- e1,<- e2] at q;exact (QkG k).2 q
  ·rw [<- e1,<- e2,<- e3];exact Qlj h5 k r
theorem MsB.keys {A A2:List Ce} {c c2:Ce} (h:MsB A c) (k:A.map Ce.key=A2.map Ce.key) (e:c.key=c2.key):MsB A2 c2:=by
 obtain ⟨e1,e2,e3⟩:=key3 e;obtain ⟨d,hd,h1,h2,h3⟩:=h;obtain ⟨d',aa,q1,q2,q3⟩:=Qcw k hd;exact ⟨d',aa,by rw [q1,h1,e1],by rw [q2,h2,e2],by rw [q3,<- e3];exact h3⟩
theorem MsA.one {A R R2:List Ce} {c:Ce} (a:AscC A) (h:MsA A c R) (k:MsA A c R2):R.map Ce.key=R2.map Ce.key:=by
 rcases h with ⟨d,o,hd,h1,h2,h3,h4,h5⟩ | ⟨h1,h5⟩
 ·rcases k with ⟨d',o',aa,k1,k2,k3,k4,k5⟩ | ⟨k1,k5⟩
  ·obtain rfl:=Qey a hd aa (h1.trans k1.symm) (h2.trans k2.symm)
   obtain rfl:=h4.one k4;exact h5.trans k5.symm
  ·exact absurd ⟨d,hd,h1,h2⟩ k1
 ·rcases k with ⟨d',o',aa,k1,k2,k3,k4,k5⟩ | ⟨k1,k5⟩
  ·exact absurd ⟨d',aa,k1,k2⟩ h1
  ·exact h5.trans k5.symm
theorem Qp7 {A R:List Ce} {c:Ce} (a:AscC A) (h:MsA A c R) (k:MsB A c):False:=by
 obtain ⟨d',aa,k1,k2,k3⟩:=k;rcases h with ⟨d,o,hd,h1,h2,h3,h4,h5⟩ | ⟨h1,h5⟩
 ·obtain rfl:=Qey a hd aa (h1.trans k1.symm) (h2.trans k2.symm)
  exact k3 h3
 ·exact h1 ⟨d',aa,k1,k2⟩
theorem QqL {A R:List Ce} (h:Mgs A [] R):R.map Ce.key=A.map Ce.key:=by
 generalize hB:([]:List Ce)=B at h
 cases h with
 | nil R h=>exact h
 | snoc B R R' c h s=>exact absurd hB (by simp)
theorem QpL {A B R:List Ce} {c:Ce} (h:Mgs A (B ++ [c]) R):∃ R1,Mgs A B R1/\MsA R1 c R:=by
 generalize hB:B ++ [c]=D at h
 cases h with
 | nil R h=>exact absurd hB (by simp)
 | snoc B' R1 R' c' h s=>
  obtain ⟨rfl,e⟩:=List.append_inj' hB rfl;obtain rfl:c=c':=by simpa using e
  exact ⟨R1,h,s⟩
theorem Mgs.one {A B R:List Ce} (a:AscC A) (h:Mgs A B R):∀ {R2},Mgs A B R2->R.map Ce.key=R2.map Ce.key:=by
 induction h with
 | nil R h=>intro R2 k;exact h.trans (QqL k).symm
 | snoc B R R' c h s ih=>
  intro R2 k;obtain ⟨R1,k1,k2⟩:=QpL k;exact MsA.one (h.asc a) s (k2.keys (ih k1).symm rfl rfl)
theorem Qn1 {A:List Ce}:∀ (B:List Ce) {R:List Ce},Mgs A B R->∀ k c,B[k]?=some c->∃ R1 R2,Mgs A (B.take k) R1/\MsA R1 c R2:=by
 intro B R h
 induction h with
 | nil R h=>intro k c e;simp at e
 | snoc B R R' c h s ih=>
  intro k d e;by_cases hk:k<B.length
  ·rw [List.getElem?_append_left hk] at e
   obtain ⟨R1,R2,q1,q2⟩:=ih k d e;exact ⟨R1,R2,by rw [List.take_append_of_le_length (by omega)];exact q1,q2⟩
  ·have aa:=(ZZd.1 e).1
   simp at aa;obtain rfl:k=B.length:=by omega
   rw [List.getElem?_append_right (Nat.le_refl _)] at e;obtain rfl:c=d:=by simpa using e
   exact ⟨R,R',by rw [List.take_left];exact h,s⟩
def MgA (a b R:List Ce):Prop:=
 if csR a=true/\csR b=true then (∃ M,Mgs a b M/\(if M.length<=60 then R.map Ce.key=M.map Ce.key else R=[]))∨((∃ k c M,b[k]?=some c/\Mgs a (b.take k) M/\MsB M c)/\R=[]) else R=[]
theorem MgA.no {a b:List Ce} (h:¬ (csR a=true/\csR b=true)):MgA a b []:=by unfold MgA;rw [if_neg h]
theorem MgA.ok {a b M:List Ce} (h:csR a=true/\csR b=true) (m:Mgs a b M) (l:M.length<=60):MgA a b M:=by unfold MgA;rw [if_pos h];exact .inl ⟨M,m,by rw [if_pos l]⟩
theorem MgA.long {a b M:List Ce} (h:csR a=true/\csR b=true) (m:Mgs a b M) (l:¬ M.length<=60):MgA a b []:=by unfold MgA;rw [if_pos h];exact .inl ⟨M,m,by rw [if_neg l]⟩
theorem MgA.bad {a b M:List Ce} {k:Nat} {c:Ce} (h:csR a=true/\csR b=true) (e:b[k]?=some c) (m:Mgs a (b.take k) M) (s:MsB M c):MgA a b []:=by unfold MgA;rw [if_pos h];exact .inr ⟨⟨k,c,M,e,m,s⟩,rfl⟩
theorem MgA.same {a b R R2:List Ce} (h:MgA a b R) (k:MgA a b R2):R.map Ce.key=R2.map Ce.key:=by
 unfold MgA at h k
 split at h
 ·rename_i q
  rw [if_pos q] at k;have asc:=(csR_iff.1 q.1).2.2;rcases h with ⟨M,m,h⟩ | ⟨⟨i,c,M,e,m,s⟩,h⟩
  ·rcases k with ⟨M2,m2,k⟩ | ⟨⟨i2,c2,M2,e2,m2,s2⟩,k⟩
   ·have o:=m.one asc m2
    have l:=QcS o
    split at h
    ·rw [if_pos (by omega)] at k;rw [h,k,o]
    ·rw [if_neg (by omega)] at k;rw [h,k]
   ·obtain ⟨R1,R3,q1,q2⟩:=Qn1 b m i2 c2 e2
    exact absurd (s2.keys (m2.one asc q1) rfl) (fun z=>Qp7 (q1.asc asc) q2 z)
  ·rcases k with ⟨M2,m2,k⟩ | ⟨⟨i2,c2,M2,e2,m2,s2⟩,k⟩
   ·obtain ⟨R1,R3,q1,q2⟩:=Qn1 b m2 i c e
    exact absurd (s.keys (m.one asc q1) rfl) (fun z=>Qp7 (q1.asc asc) q2 z)
   ·rw [h,k]
 ·rename_i q
  rw [if_neg q] at k;rw [h,k]
structure CnQ (M:List Ce):Prop where
 ok:∀ c∈M,AgOk c.g
 sm:∀ c∈M,AgSm c.g
 rt:∀ c∈M,agB c.g=true
 ky:∀ c∈M,QbR c.n c.s
theorem CnQ.keys {M L:List Ce} (h:CnQ L) (k:M.map Ce.key=L.map Ce.key):CnQ M:=by
 refine ⟨fun c hc=>?_,fun c hc=>?_,fun c hc=>?_,fun c hc=>?_⟩ <;> obtain ⟨d,hd,e1,e2,e3⟩:=Qcw k hc
 ·rw [<- e3];exact h.ok d hd
 ·rw [<- e3];exact h.sm d hd
 ·rw [<- e3];exact h.rt d hd
 ·rw [<- e1,<- e2];exact h.ky d hd
theorem CnQ.ptl {A R:List Ce} {n:Int} {s:ByteArray} {o:Ag} (q:CnQ A) (h:PtL A n s o R) (k:QbR n s) (ok:AgOk o) (sm:AgSm o) (rt:agB o=true):CnQ R:=by
 refine CnQ.keys (L:=A.filter (loF n s) ++ ⟨n,s,o,⟨none,0,none,0,none,0,none,0⟩⟩ :: A.filter (hiF n s)) ?_ (by rw [List.map_append,List.map_cons];exact h)
 have aa:∀ c∈A.filter (loF n s) ++ ⟨n,s,o,⟨none,0,none,0,none,0,none,0⟩⟩ :: A.filter (hiF n s),c∈A∨c=⟨n,s,o,⟨none,0,none,0,none,0,none,0⟩⟩:=fun c hc=>by
  rcases List.mem_append.1 hc with hc | hc
  ·exact .inl (List.mem_filter.1 hc).1
  ·rcases List.mem_cons.1 hc with rfl | hc
   ·exact .inr rfl
   ·exact .inl (List.mem_filter.1 hc).1
 refine ⟨fun c hc=>?_,fun c hc=>?_,fun c hc=>?_,fun c hc=>?_⟩ <;> rcases aa c hc with hc | rfl
 ·exact q.ok c hc
 ·exact ok
 ·exact q.sm c hc
 ·exact sm
 ·exact q.rt c hc
 ·exact rt
 ·exact q.ky c hc
 ·exact k
theorem Qrv {d c:Ce} {o:Ag} (ok:AgOk d.g) (ok':AgOk c.g) (rt:agB d.g=true) (rt':agB c.g=true) (hk:d.g.k=c.g.k) (h:AgMrg d.g c.g o):AgOk o/\AgSm o/\agB o=true:=by
 obtain ⟨a,b,_⟩:=Qc4 ⟨rt,rt',hk⟩ ok ok' h;exact ⟨b,(QlQ h).sm,a⟩
theorem CnQ.step {A R:List Ce} {c:Ce} (q:CnQ A) (h:MsA A c R) (ok:AgOk c.g) (sm:AgSm c.g) (rt:agB c.g=true) (ky:QbR c.n c.s):CnQ R:=by
 rcases h with ⟨d,o,hd,h1,h2,h3,h4,h5⟩ | ⟨h1,h5⟩
 ·obtain ⟨a1,a2,a3⟩:=Qrv (q.ok d hd) ok (q.rt d hd) rt h3 h4
  exact q.ptl h5 ky a1 a2 a3
 ·exact q.ptl h5 ky ok sm rt
theorem MsA.len {A R:List Ce} {c:Ce} (a:AscC A) (h:MsA A c R):R.length<=A.length+1:=by
 rcases h with ⟨d,o,hd,h1,h2,h3,h4,h5⟩ | ⟨h1,h5⟩
 ·have e:=congrArg List.length h5
  simp only [List.length_map,List.length_append,List.length_cons] at e;have sp:=congrArg List.length (Qc1 a hd);rw [h1,h2] at sp;simp only [List.length_append,List.length_cons] at sp;omega
 ·have e:=congrArg List.length h5
  simp only [List.length_map,List.length_append,List.length_cons] at e;have:=(QfO h1).length_eq;simp only [List.length_append] at this;omega
theorem Mgs.len {A B R:List Ce} (a:AscC A) (h:Mgs A B R):R.length<=A.length+B.length:=by
 induction h with
 | nil R h=>have:=QcS h;simp;omega
 | snoc B R R' c h s ih=>have:=s.len (h.asc a);simp;omega
structure St where
 n:Int
 x:Sx
abbrev stArr (s:St):Array Value:=#[.int .i64 s.n,.int .i64 s.x.k,.string s.x.se,.int .i64 s.x.v,.string s.x.wd,.int .u64 s.x.wt,.bool s.x.tm,.int .i64 s.x.ti]
abbrev StCell (w:World) (b o:Nat) (s:St):Prop:=w.cell? ⟨b,o,none⟩=some (.int .i64 s.n)/\w.cell? ⟨b,o+1,none⟩=some (.int .i64 s.x.k)/\w.cell? ⟨b,o+2,none⟩=some (.string s.x.se)/\w.cell? ⟨b,o+3,none⟩=some (.int .i64 s.x.v)/\w.cell? ⟨b,o+4,none⟩=some (.string s.x.wd)/\w.cell? ⟨b,o+5,none⟩=some (.int .u64 s.x.wt)/\w.cell? ⟨b,o+6,none⟩=some (.bool s.x.tm)/\w.cell? ⟨b,o+7,none⟩=some (.int .i64 s.x.ti)
def StsAt (w:World) (ao:Option Addr) (L:List St):Prop:=0<L.length->∃ b off,ao=some ⟨b,off,none⟩/\∀ i s,L[i]?=some s->StCell w b (off+i*8) s
def StR (s:St):Prop:=s.x.B=true/\Qfq s.n=true
inductive CoI:List St->List Ce->Prop
 | nil:CoI [] []
 | snoc (L:List St) (R R':List Ce) (s:St) (h:CoI L R) (f:StR s) (p:PuA R s.n s.x R' 0):CoI (L ++ [s]) R'
theorem Qqc {x:Sx} (h:x.B=true):Qbv x.se=true:=by
 unfold Sx.B QbA at h;simp only [Bool.and_eq_true] at h;exact h.1.1.1.2
theorem QmK {g o:Ag} {x:Sx} (h:AgPut g x o) (hg:agB g=true) (hx:x.B=true) (hk:g.k=x.k) (ok:AgOk g) (ox:x.Ok):o.s≠0:=by
 unfold AgPut at h;rw [if_pos (by first | exact ⟨hg,hx,hk⟩ | exact ⟨hg,hk,hx⟩)] at h;unfold AgMrg at h
 split at h
 ·obtain ⟨E,R,m,rfl⟩:=h
  show Qar g.s (QhV x).s≠0
  have e:(QhV x).s=1:=by unfold QhV;split <;> first | rfl | (split <;> first | rfl | (split <;> rfl))
  rw [e];have:=ok.s;unfold U64 at this;unfold Qar
  split <;> omega
 ·rename_i q
  exact absurd ⟨hg,Qb4 ox hx,hk.trans (QgU hx).symm⟩ q
theorem Qnh {R R':List Ce} {n:Int} {s:ByteArray} {o:Ag} (r:csR R=true) (h:PtL R n s o R') (hn:Qfq n=true) (hs:Qbv s=true) (ho:agB o=true) (hz:o.s≠0) (hl:R'.length<=60):csR R'=true:=by
 obtain ⟨h1,h2,h3⟩:=csR_iff.1 r;refine csR_iff.2 ⟨hl,fun c hc=>?_,Qkl h h3⟩;have h':R'.map Ce.key=(R.filter (loF n s) ++ ⟨n,s,o,⟨none,0,none,0,none,0,none,0⟩⟩ :: R.filter (hiF n s)).map Ce.key:=by rw [List.map_append,List.map_cons];exact h
 obtain ⟨d,hd,e1,e2,e3⟩:=Qcw h' hc;have e:cRi c=cRi d:=by unfold cRi;rw [e1,e2,e3]
 rw [e];rcases List.mem_append.1 hd with hd | hd
 ·exact h2 d (List.mem_filter.1 hd).1
 ·rcases List.mem_cons.1 hd with rfl | hd
  ·unfold cRi
   simp [hn,hs,ho,hz]
  ·exact h2 d (List.mem_filter.1 hd).1
theorem Qiu {R R':List Ce} {n:Int} {x:Sx} (r:csR R=true) (q:CnQ R) (ox:x.Ok) (hx:x.B=true) (hn:Qfq n=true) (p:PuA R n x R' 0):csR R'=true/\CnQ R':=by
 have ab:=(csR_iff.1 r).2.2;have kw:QbR n x.se:=⟨Qj5 hn,ox.se⟩;generalize hc0:(0:Int)=c0 at p
 cases p with
 | kind=>exact absurd hc0 (by decide)
 | full=>exact absurd hc0 (by decide)
 | there c o R' hc k1 k2 hk hp hR=>
  obtain ⟨a1,a2,_⟩:=Qhg ox (q.ok c hc) hp
  have hl:R'.length<=60:=by
   have e:=congrArg List.length hR;simp only [List.length_map,List.length_append,List.length_cons] at e;have sp:=congrArg List.length (Qc1 ab hc);rw [k1,k2] at sp;simp only [List.length_append,List.length_cons] at sp;have:=(csR_iff.1 r).1;omega
  exact ⟨Qnh r hR hn (Qqc hx) (a2 (q.rt c hc)) (QmK hp (q.rt c hc) hx hk (q.ok c hc) ox) hl,q.ptl hR kw a1 (Qk4 hp hx (q.rt c hc) hk).sm (a2 (q.rt c hc))⟩
 | new o R' hno hl hp hR=>
  obtain ⟨b1,b4⟩:=(Qbo hx).1;obtain ⟨g1,g2,g3,g4,_⟩:=QdO b1 b4;obtain ⟨a1,a2,_⟩:=Qhg ox g2 hp
  have aa:R'.length<=60:=by
   have e:=congrArg List.length hR;simp only [List.length_map,List.length_append,List.length_cons] at e;have:=(QfO hno).length_eq;simp only [List.length_append] at this;omega
  exact ⟨Qnh r hR hn (Qqc hx) (a2 g1) (QmK hp g1 hx g4 g2 ox) aa,q.ptl hR kw a1 (Qk4 hp hx g1 g4).sm (a2 g1)⟩
def aln:ByteArray:=⟨#[97,108,111,110,101]⟩
inductive CoR (L:List St):List Ce->Int->Prop
 | size (h:400<L.length):CoR L [] 2
 | ok (R:List Ce) (h:¬ 400<L.length) (m:CoI L R):CoR L R 0
 | form (h:¬ 400<L.length) (k:Nat) (s:St) (M:List Ce) (e:L[k]?=some s) (m:CoI (L.take k) M) (f:¬ StR s):CoR L [] 1
 | fall (h:¬ 400<L.length) (k:Nat) (s:St) (M:List Ce) (code:Int) (e:L[k]?=some s) (m:CoI (L.take k) M) (f:StR s) (p:PuA M s.n s.x [] code) (z:code≠0):CoR L [] code
end Go.Proofs.YtandnmpllheniaaGreatDoor
