/-
  Cells brought to cells in order, one by one: what CellsMerge answers, and that there is but one. The mathematics.
-/
import Derived.Test.YthchmdmncmioiaaGreatDoorZPJ
namespace Go.Proofs.YthchmdmncmioiaaGreatDoor
set_option linter.unusedVariables false
set_option linter.unusedSimpArgs false
open Go.ChangeShapes Go.WideShapes Go.ChangeAt Go.RowKit Go.PlainAid Go.Lib Go.Maps
set_option maxRecDepth 10000
def MsA (A:List Ce) (c:Ce) (R:List Ce):Prop:=
  (∃ d o,d∈A/\d.n=c.n/\d.s=c.s/\d.g.k=c.g.k/\AgMrg d.g c.g o/\PtL A c.n c.s o R)∨(¬ Qfc A c.n c.s/\PtL A c.n c.s c.g R)
def MsB (A:List Ce) (c:Ce):Prop:=∃ d∈A,d.n=c.n/\d.s=c.s/\¬ d.g.k=c.g.k
inductive Mgs (A:List Ce):List Ce->List Ce->Prop
  | nil (R:List Ce) (h:R.map Ce.key=A.map Ce.key):Mgs A [] R
  | snoc (B R R':List Ce) (c:Ce) (h:Mgs A B R) (s:MsA R c R'):Mgs A (B ++ [c]) R'
theorem Qja {A R:List Ce} {n:Int} {s:ByteArray} {o:Ag} (h:PtL A n s o R) (a:AscC A):AscC R:=by
  refine QeT (L:=A.filter (loF n s) ++ ⟨n,s,o,⟨none,0,none,0,none,0,none,0⟩⟩ :: A.filter (hiF n s)) ?_ (Qjr (c:=⟨n,s,o,⟨none,0,none,0,none,0,none,0⟩⟩) a);rw [List.map_append,List.map_cons];exact h
theorem MsA.asc {A R:List Ce} {c:Ce} (h:MsA A c R) (a:AscC A):AscC R:=by
  rcases h with ⟨d,o,_,_,_,_,_,h⟩ | ⟨_,h⟩
  · exact Qja h a
  · exact Qja h a
theorem Mgs.asc {A B R:List Ce} (h:Mgs A B R) (a:AscC A):AscC R:=by
  induction h with
  | nil R h=>exact QeT h a
  | snoc B R R' c h s ih=>exact s.asc ih
theorem key3 {c d:Ce} (h:c.key=d.key):c.n=d.n/\c.s=d.s/\c.g=d.g:=by
  unfold Ce.key at h;simp only [Prod.mk.injEq] at h;exact h
theorem Qlo {A A2 R R2:List Ce} {n:Int} {s:ByteArray} {o:Ag} (h:PtL A n s o R) (k:A.map Ce.key=A2.map Ce.key) (r:R2.map Ce.key=R.map Ce.key):PtL A2 n s o R2:=by
  have:=h.key k;unfold PtL at this ⊢;rw [r];exact this
theorem MsA.keys {A A2 R R2:List Ce} {c c2:Ce} (h:MsA A c R) (k:A.map Ce.key=A2.map Ce.key) (e:c.key=c2.key) (r:R2.map Ce.key=R.map Ce.key):MsA A2 c2 R2:=by
  obtain ⟨e1,e2,e3⟩:=key3 e;rcases h with ⟨d,o,hd,h1,h2,h3,h4,h5⟩ | ⟨h1,h5⟩
  · obtain ⟨d',hd',q1,q2,q3⟩:=Qce k hd
    refine .inl ⟨d',o,hd',by rw [q1,h1,e1],by rw [q2,h2,e2],by rw [q3,h3,e3],by rw [q3,<- e3];exact h4,?_⟩;rw [<- e1,<- e2];exact Qlo h5 k r
  · refine .inr ⟨fun q=>h1 ?_,?_⟩
    · rw [<- e1,<- e2] at q;exact (QjV k).2 q
    · rw [<- e1,<- e2,<- e3];exact Qlo h5 k r
theorem MsB.keys {A A2:List Ce} {c c2:Ce} (h:MsB A c) (k:A.map Ce.key=A2.map Ce.key) (e:c.key=c2.key):MsB A2 c2:=by
  obtain ⟨e1,e2,e3⟩:=key3 e;obtain ⟨d,hd,h1,h2,h3⟩:=h;obtain ⟨d',hd',q1,q2,q3⟩:=Qce k hd;exact ⟨d',hd',by rw [q1,h1,e1],by rw [q2,h2,e2],by rw [q3,<- e3];exact h3⟩
theorem Mgs.keys {A A2 B R:List Ce} (h:Mgs A B R):∀ {B2 R2:List Ce},A.map Ce.key=A2.map Ce.key->B.map Ce.key=B2.map Ce.key->R2.map Ce.key=R.map Ce.key->Mgs A2 B2 R2:=by
  induction h with
  | nil R h => intro B2 R2 k b r; obtain rfl : B2 = [] := by simpa using b.symm
               exact .nil _ (r.trans (h.trans k))
  | snoc B R R' c h s ih=>
    intro B2 R2 k b r
    obtain ⟨B3,c3,rfl⟩:∃ B3 c3,B2=B3 ++ [c3]:=by
      have hne:B2≠[]:=fun e=>by rw [e] at b;simp at b
      exact ⟨B2.dropLast,B2.getLast hne,(List.dropLast_concat_getLast hne).symm⟩
    rw [List.map_append,List.map_append] at b;obtain ⟨b1,b2⟩:=List.append_inj' b rfl;exact .snoc B3 R _ c3 (ih k b1 rfl) (s.keys rfl (by simpa using b2) r)
def MgA (a b R:List Ce):Prop:=
  if csR a=true/\csR b=true then (∃ M,Mgs a b M/\(if M.length<=60 then R.map Ce.key=M.map Ce.key else R=[]))∨((∃ k c M,b[k]?=some c/\Mgs a (b.take k) M/\MsB M c)/\R=[]) else R=[]
theorem MgA.no {a b:List Ce} (h:¬ (csR a=true/\csR b=true)):MgA a b []:=by unfold MgA;rw [if_neg h]
theorem MgA.ok {a b M:List Ce} (h:csR a=true/\csR b=true) (m:Mgs a b M) (l:M.length<=60):MgA a b M:=by unfold MgA;rw [if_pos h];exact .inl ⟨M,m,by rw [if_pos l]⟩
theorem MgA.long {a b M:List Ce} (h:csR a=true/\csR b=true) (m:Mgs a b M) (l:¬ M.length<=60):MgA a b []:=by unfold MgA;rw [if_pos h];exact .inl ⟨M,m,by rw [if_neg l]⟩
theorem MgA.bad {a b M:List Ce} {k:Nat} {c:Ce} (h:csR a=true/\csR b=true) (e:b[k]?=some c) (m:Mgs a (b.take k) M) (s:MsB M c):MgA a b []:=by unfold MgA;rw [if_pos h];exact .inr ⟨⟨k,c,M,e,m,s⟩,rfl⟩
theorem MgA.keys {a b a2 b2 R:List Ce} (h:MgA a b R) (ka:a.map Ce.key=a2.map Ce.key) (kb:b.map Ce.key=b2.map Ce.key):MgA a2 b2 R:=by
  unfold MgA at h ⊢;rw [Qmz ka,Qmz kb] at h
  split at h
  · rename_i q
    rw [if_pos q];rcases h with ⟨M,m,h⟩ | ⟨⟨k,c,M,e,m,s⟩,h⟩
    · exact .inl ⟨M,m.keys ka kb rfl,h⟩
    · have e2:(b.map Ce.key)[k]?=(b2.map Ce.key)[k]?:=by rw [kb]
      rw [List.getElem?_map,List.getElem?_map,e] at e2
      cases q2:b2[k]? with
      | none=>rw [q2] at e2;simp at e2
      | some c2=>
        rw [q2] at e2;have e3:c.key=c2.key:=by simpa using e2
        exact .inr ⟨⟨k,c2,M,q2,m.keys ka (by rw [List.map_take,List.map_take,kb]) rfl,s.keys rfl e3⟩,h⟩
  · rename_i q
    rw [if_neg q];exact h
structure CnQ (M:List Ce):Prop where
  ok:∀ c∈M,AgOk c.g
  sm:∀ c∈M,AgSm c.g
  rt:∀ c∈M,agB c.g=true
  ky:∀ c∈M,QbI c.n c.s
theorem CnQ.keys {M L:List Ce} (h:CnQ L) (k:M.map Ce.key=L.map Ce.key):CnQ M:=by
  refine ⟨fun c hc=>?_,fun c hc=>?_,fun c hc=>?_,fun c hc=>?_⟩ <;> obtain ⟨d,hd,e1,e2,e3⟩:=Qce k hc
  · rw [<- e3];exact h.ok d hd
  · rw [<- e3];exact h.sm d hd
  · rw [<- e3];exact h.rt d hd
  · rw [<- e1,<- e2];exact h.ky d hd
theorem CnQ.ptl {A R:List Ce} {n:Int} {s:ByteArray} {o:Ag} (q:CnQ A) (h:PtL A n s o R) (k:QbI n s) (ok:AgOk o) (sm:AgSm o) (rt:agB o=true):CnQ R:=by
  refine CnQ.keys (L:=A.filter (loF n s) ++ ⟨n,s,o,⟨none,0,none,0,none,0,none,0⟩⟩ :: A.filter (hiF n s)) ?_ (by rw [List.map_append,List.map_cons];exact h)
  have mem:∀ c∈A.filter (loF n s) ++ ⟨n,s,o,⟨none,0,none,0,none,0,none,0⟩⟩ :: A.filter (hiF n s),c∈A∨c=⟨n,s,o,⟨none,0,none,0,none,0,none,0⟩⟩:=fun c hc=>by
    rcases List.mem_append.1 hc with hc | hc
    · exact .inl (List.mem_filter.1 hc).1
    · rcases List.mem_cons.1 hc with rfl | hc
      · exact .inr rfl
      · exact .inl (List.mem_filter.1 hc).1
  refine ⟨fun c hc=>?_,fun c hc=>?_,fun c hc=>?_,fun c hc=>?_⟩ <;> rcases mem c hc with hc | rfl
  · exact q.ok c hc
  · exact ok
  · exact q.sm c hc
  · exact sm
  · exact q.rt c hc
  · exact rt
  · exact q.ky c hc
  · exact k
theorem Qqa {d c:Ce} {o:Ag} (ok:AgOk d.g) (ok':AgOk c.g) (rt:agB d.g=true) (rt':agB c.g=true) (hk:d.g.k=c.g.k) (h:AgMrg d.g c.g o):AgOk o/\AgSm o/\agB o=true:=by
  obtain ⟨a,b,_⟩:=QiI ⟨rt,rt',hk⟩ ok ok' h;exact ⟨b,(Qkd h).sm,a⟩
theorem CnQ.step {A R:List Ce} {c:Ce} (q:CnQ A) (h:MsA A c R) (ok:AgOk c.g) (sm:AgSm c.g) (rt:agB c.g=true) (ky:QbI c.n c.s):CnQ R:=by
  rcases h with ⟨d,o,hd,h1,h2,h3,h4,h5⟩ | ⟨h1,h5⟩
  · obtain ⟨a1,a2,a3⟩:=Qqa (q.ok d hd) ok (q.rt d hd) rt h3 h4
    exact q.ptl h5 ky a1 a2 a3
  · exact q.ptl h5 ky ok sm rt
theorem MsA.len {A R:List Ce} {c:Ce} (a:AscC A) (h:MsA A c R):R.length<=A.length+1:=by
  rcases h with ⟨d,o,hd,h1,h2,h3,h4,h5⟩ | ⟨h1,h5⟩
  · have e:=congrArg List.length h5
    simp only [List.length_map,List.length_append,List.length_cons] at e;have sp:=congrArg List.length (QcL a hd);rw [h1,h2] at sp;simp only [List.length_append,List.length_cons] at sp;omega
  · have e:=congrArg List.length h5
    simp only [List.length_map,List.length_append,List.length_cons] at e;have:=(QeO h1).length_eq;simp only [List.length_append] at this;omega
theorem Mgs.len {A B R:List Ce} (a:AscC A) (h:Mgs A B R):R.length<=A.length+B.length:=by
  induction h with
  | nil R h=>have:=Qdd h;simp;omega
  | snoc B R R' c h s ih=>have:=s.len (h.asc a);simp;omega
structure St where
  n:Int
  x:Sx
abbrev stArr (s:St):Array Value:=#[.int .i64 s.n,.int .i64 s.x.k,.string s.x.se,.int .i64 s.x.v,.string s.x.wd,.int .u64 s.x.wt,.bool s.x.tm,.int .i64 s.x.ti]
abbrev StCell (w:World) (b o:Nat) (s:St):Prop:=w.cell? ⟨b,o,none⟩=some (.int .i64 s.n)/\w.cell? ⟨b,o+1,none⟩=some (.int .i64 s.x.k)/\w.cell? ⟨b,o+2,none⟩=some (.string s.x.se)/\w.cell? ⟨b,o+3,none⟩=some (.int .i64 s.x.v)/\w.cell? ⟨b,o+4,none⟩=some (.string s.x.wd)/\w.cell? ⟨b,o+5,none⟩=some (.int .u64 s.x.wt)/\w.cell? ⟨b,o+6,none⟩=some (.bool s.x.tm)/\w.cell? ⟨b,o+7,none⟩=some (.int .i64 s.x.ti)
def StsAt (w:World) (ao:Option Addr) (L:List St):Prop:=0<L.length->∃ b off,ao=some ⟨b,off,none⟩/\∀ i s,L[i]?=some s->StCell w b (off+i*8) s
def StR (s:St):Prop:=s.x.B=true/\QdO s.n=true
inductive CoI:List St->List Ce->Prop
  | nil:CoI [] []
  | snoc (L:List St) (R R':List Ce) (s:St) (h:CoI L R) (f:StR s) (p:PuA R s.n s.x R' 0):CoI (L ++ [s]) R'
theorem Qpv {x:Sx} (h:x.B=true):Qbh x.se=true:=by
  unfold Sx.B Qbm at h;simp only [Bool.and_eq_true] at h;exact h.1.1.1.2
theorem QmV {g o:Ag} {x:Sx} (h:AgPut g x o) (hg:agB g=true) (hx:x.B=true) (hk:g.k=x.k) (ok:AgOk g) (ox:x.Ok):o.s≠0:=by
  unfold AgPut at h;rw [if_pos (by first | exact ⟨hg,hx,hk⟩ | exact ⟨hg,hk,hx⟩)] at h;unfold AgMrg at h
  split at h
  · obtain ⟨E,R,m,rfl⟩:=h
    show QaA g.s (Qhg x).s≠0
    have e:(Qhg x).s=1:=by unfold Qhg;split <;> first | rfl | (split <;> first | rfl | (split <;> rfl))
    rw [e];have:=ok.s;unfold U64 at this;unfold QaA
    split <;> omega
  · rename_i q
    exact absurd ⟨hg,Qb4 ox hx,hk.trans (QgO hx).symm⟩ q
theorem QmW {R R':List Ce} {n:Int} {s:ByteArray} {o:Ag} (r:csR R=true) (h:PtL R n s o R') (hn:QdO n=true) (hs:Qbh s=true) (ho:agB o=true) (hz:o.s≠0) (hl:R'.length<=60):csR R'=true:=by
  obtain ⟨h1,h2,h3⟩:=csR_iff.1 r;refine csR_iff.2 ⟨hl,fun c hc=>?_,Qja h h3⟩;have h':R'.map Ce.key=(R.filter (loF n s) ++ ⟨n,s,o,⟨none,0,none,0,none,0,none,0⟩⟩ :: R.filter (hiF n s)).map Ce.key:=by rw [List.map_append,List.map_cons];exact h
  obtain ⟨d,hd,e1,e2,e3⟩:=Qce h' hc;have e:cRi c=cRi d:=by unfold cRi;rw [e1,e2,e3]
  rw [e];rcases List.mem_append.1 hd with hd | hd
  · exact h2 d (List.mem_filter.1 hd).1
  · rcases List.mem_cons.1 hd with rfl | hd
    · unfold cRi
      simp [hn,hs,ho,hz]
    · exact h2 d (List.mem_filter.1 hd).1
theorem Qn0 {R R':List Ce} {n:Int} {x:Sx} (r:csR R=true) (q:CnQ R) (ox:x.Ok) (hx:x.B=true) (hn:QdO n=true) (p:PuA R n x R' 0):csR R'=true/\CnQ R':=by
  have asc:=(csR_iff.1 r).2.2;have kw:QbI n x.se:=⟨QjO hn,ox.se⟩;generalize hc0:(0:Int)=c0 at p
  cases p with
  | kind=>exact absurd hc0 (by decide)
  | full=>exact absurd hc0 (by decide)
  | there c o R' hc k1 k2 hk hp hR=>
    obtain ⟨a1,a2,_⟩:=Qi6 ox (q.ok c hc) hp
    have hl:R'.length<=60:=by
      have e:=congrArg List.length hR;simp only [List.length_map,List.length_append,List.length_cons] at e;have sp:=congrArg List.length (QcL asc hc);rw [k1,k2] at sp;simp only [List.length_append,List.length_cons] at sp;have:=(csR_iff.1 r).1;omega
    exact ⟨QmW r hR hn (Qpv hx) (a2 (q.rt c hc)) (QmV hp (q.rt c hc) hx hk (q.ok c hc) ox) hl,q.ptl hR kw a1 (Qln hp hx (q.rt c hc) hk).sm (a2 (q.rt c hc))⟩
  | new o R' hno hl hp hR=>
    obtain ⟨b1,b4⟩:=(Qbi hx).1;obtain ⟨g1,g2,g3,g4,_⟩:=QeL b1 b4;obtain ⟨a1,a2,_⟩:=Qi6 ox g2 hp
    have hl':R'.length<=60:=by
      have e:=congrArg List.length hR;simp only [List.length_map,List.length_append,List.length_cons] at e;have:=(QeO hno).length_eq;simp only [List.length_append] at this;omega
    exact ⟨QmW r hR hn (Qpv hx) (a2 g1) (QmV hp g1 hx g4 g2 ox) hl',q.ptl hR kw a1 (Qln hp hx g1 g4).sm (a2 g1)⟩
def aln:ByteArray:=⟨#[97,108,111,110,101]⟩
inductive CoR (L:List St):List Ce->Int->Prop
  | size (h:400<L.length):CoR L [] 2
  | ok (R:List Ce) (h:¬ 400<L.length) (m:CoI L R):CoR L R 0
  | form (h:¬ 400<L.length) (k:Nat) (s:St) (M:List Ce) (e:L[k]?=some s) (m:CoI (L.take k) M) (f:¬ StR s):CoR L [] 1
  | fall (h:¬ 400<L.length) (k:Nat) (s:St) (M:List Ce) (code:Int) (e:L[k]?=some s) (m:CoI (L.take k) M) (f:StR s) (p:PuA M s.n s.x [] code) (z:code≠0):CoR L [] code
end Go.Proofs.YthchmdmncmioiaaGreatDoor
