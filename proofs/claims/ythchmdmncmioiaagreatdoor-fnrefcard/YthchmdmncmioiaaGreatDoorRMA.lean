/-
 Cells brought to cells in order, one by one: what CellsMerge answers, and that there is but one. The mathematics.
-/
import Derived.Test.YthchmdmncmioiaaGreatDoorRPJ
namespace Go.Proofs.YthchmdmncmioiaaGreatDoor
set_option linter.unusedVariables false
set_option linter.unusedSimpArgs false
open Go.ChangeShapes Go.WideShapes Go.ChangeAt Go.RowKit Go.PlainAid Go.Lib Go.Maps
set_option maxRecDepth 10000
def MsA (A:List Ce) (c:Ce) (R:List Ce):Prop:=
 (∃ d o,d∈A∧d.n=c.n∧d.s=c.s∧d.g.k=c.g.k∧AgMrg d.g c.g o∧PtL A c.n c.s o R)∨(¬ HasK A c.n c.s∧PtL A c.n c.s c.g R)
def MsB (A:List Ce) (c:Ce):Prop:=∃ d∈A,d.n=c.n∧d.s=c.s∧¬ d.g.k=c.g.k
inductive Mgs (A:List Ce):List Ce→List Ce→Prop
 | nil (R:List Ce) (h:R.map Ce.key=A.map Ce.key):Mgs A [] R
 | snoc (B R R':List Ce) (c:Ce) (h:Mgs A B R) (s:MsA R c R'):Mgs A (B ++ [c]) R'
theorem ptl_asc {A R:List Ce} {n:Int} {s:ByteArray} {o:Ag} (h:PtL A n s o R) (a:AscC A):AscC R:=by
 refine asc_key (L:=A.filter (loF n s) ++ ⟨n,s,o,⟨none,0,none,0,none,0,none,0⟩⟩ :: A.filter (hiF n s)) ?_ (put_asc (c:=⟨n,s,o,⟨none,0,none,0,none,0,none,0⟩⟩) a);rw [List.map_append,List.map_cons];exact h
theorem MsA.asc {A R:List Ce} {c:Ce} (h:MsA A c R) (a:AscC A):AscC R:=by
 rcases h with ⟨d,o,_,_,_,_,_,h⟩ | ⟨_,h⟩
 ·exact ptl_asc h a
 ·exact ptl_asc h a
theorem Mgs.asc {A B R:List Ce} (h:Mgs A B R) (a:AscC A):AscC R:=by
 induction h with
 | nil R h=>exact asc_key h a
 | snoc B R R' c h s ih=>exact s.asc ih
def MgA (a b R:List Ce):Prop:=
 if csR a=true∧csR b=true then (∃ M,Mgs a b M∧(if M.length≤60 then R.map Ce.key=M.map Ce.key else R=[]))∨((∃ k c M,b[k]?=some c∧Mgs a (b.take k) M∧MsB M c)∧R=[]) else R=[]
theorem MgA.no {a b:List Ce} (h:¬ (csR a=true∧csR b=true)):MgA a b []:=by unfold MgA;rw [if_neg h]
theorem MgA.ok {a b M:List Ce} (h:csR a=true∧csR b=true) (m:Mgs a b M) (l:M.length≤60):MgA a b M:=by unfold MgA;rw [if_pos h];exact .inl ⟨M,m,by rw [if_pos l]⟩
theorem MgA.long {a b M:List Ce} (h:csR a=true∧csR b=true) (m:Mgs a b M) (l:¬ M.length≤60):MgA a b []:=by unfold MgA;rw [if_pos h];exact .inl ⟨M,m,by rw [if_neg l]⟩
theorem MgA.bad {a b M:List Ce} {k:Nat} {c:Ce} (h:csR a=true∧csR b=true) (e:b[k]?=some c) (m:Mgs a (b.take k) M) (s:MsB M c):MgA a b []:=by unfold MgA;rw [if_pos h];exact .inr ⟨⟨k,c,M,e,m,s⟩,rfl⟩
structure CnQ (M:List Ce):Prop where
 ok:∀ c∈M,AgOk c.g
 sm:∀ c∈M,AgSm c.g
 rt:∀ c∈M,agB c.g=true
 ky:∀ c∈M,KeyOk c.n c.s
theorem CnQ.keys {M L:List Ce} (h:CnQ L) (k:M.map Ce.key=L.map Ce.key):CnQ M:=by
 refine ⟨fun c hc=>?_,fun c hc=>?_,fun c hc=>?_,fun c hc=>?_⟩ <;> obtain ⟨d,hd,e1,e2,e3⟩:=key_mem k hc
 ·rw [← e3];exact h.ok d hd
 ·rw [← e3];exact h.sm d hd
 ·rw [← e3];exact h.rt d hd
 ·rw [← e1,← e2];exact h.ky d hd
theorem CnQ.ptl {A R:List Ce} {n:Int} {s:ByteArray} {o:Ag} (q:CnQ A) (h:PtL A n s o R) (k:KeyOk n s) (ok:AgOk o) (sm:AgSm o) (rt:agB o=true):CnQ R:=by
 refine CnQ.keys (L:=A.filter (loF n s) ++ ⟨n,s,o,⟨none,0,none,0,none,0,none,0⟩⟩ :: A.filter (hiF n s)) ?_ (by rw [List.map_append,List.map_cons];exact h)
 have mem:∀ c∈A.filter (loF n s) ++ ⟨n,s,o,⟨none,0,none,0,none,0,none,0⟩⟩ :: A.filter (hiF n s),c∈A∨c=⟨n,s,o,⟨none,0,none,0,none,0,none,0⟩⟩:=fun c hc=>by
  rcases List.mem_append.1 hc with hc | hc
  ·exact .inl (List.mem_filter.1 hc).1
  ·rcases List.mem_cons.1 hc with rfl | hc
   ·exact .inr rfl
   ·exact .inl (List.mem_filter.1 hc).1
 refine ⟨fun c hc=>?_,fun c hc=>?_,fun c hc=>?_,fun c hc=>?_⟩ <;> rcases mem c hc with hc | rfl
 ·exact q.ok c hc
 ·exact ok
 ·exact q.sm c hc
 ·exact sm
 ·exact q.rt c hc
 ·exact rt
 ·exact q.ky c hc
 ·exact k
theorem mrg_all {d c:Ce} {o:Ag} (ok:AgOk d.g) (ok':AgOk c.g) (rt:agB d.g=true) (rt':agB c.g=true) (hk:d.g.k=c.g.k) (h:AgMrg d.g c.g o):AgOk o∧AgSm o∧agB o=true:=by
 obtain ⟨a,b,_⟩:=mrg_stays ⟨rt,rt',hk⟩ ok ok' h;exact ⟨b,(mrg_few5 h).sm,a⟩
theorem CnQ.step {A R:List Ce} {c:Ce} (q:CnQ A) (h:MsA A c R) (ok:AgOk c.g) (sm:AgSm c.g) (rt:agB c.g=true) (ky:KeyOk c.n c.s):CnQ R:=by
 rcases h with ⟨d,o,hd,h1,h2,h3,h4,h5⟩ | ⟨h1,h5⟩
 ·obtain ⟨a1,a2,a3⟩:=mrg_all (q.ok d hd) ok (q.rt d hd) rt h3 h4
  exact q.ptl h5 ky a1 a2 a3
 ·exact q.ptl h5 ky ok sm rt
theorem MsA.len {A R:List Ce} {c:Ce} (a:AscC A) (h:MsA A c R):R.length≤A.length+1:=by
 rcases h with ⟨d,o,hd,h1,h2,h3,h4,h5⟩ | ⟨h1,h5⟩
 ·have e:=congrArg List.length h5
  simp only [List.length_map,List.length_append,List.length_cons] at e;have sp:=congrArg List.length (yes_split a hd);rw [h1,h2] at sp;simp only [List.length_append,List.length_cons] at sp;omega
 ·have e:=congrArg List.length h5
  simp only [List.length_map,List.length_append,List.length_cons] at e;have:=(no_perm h1).length_eq;simp only [List.length_append] at this;omega
theorem Mgs.len {A B R:List Ce} (a:AscC A) (h:Mgs A B R):R.length≤A.length+B.length:=by
 induction h with
 | nil R h=>have:=map_len h;simp;omega
 | snoc B R R' c h s ih=>have:=s.len (h.asc a);simp;omega
structure St where
 n:Int
 x:Sx
abbrev stArr (s:St):Array Value:=#[.int .i64 s.n,.int .i64 s.x.k,.string s.x.se,.int .i64 s.x.v,.string s.x.wd,.int .u64 s.x.wt,.bool s.x.tm,.int .i64 s.x.ti]
abbrev StCell (w:World) (b o:Nat) (s:St):Prop:=w.cell? ⟨b,o,none⟩=some (.int .i64 s.n)∧w.cell? ⟨b,o+1,none⟩=some (.int .i64 s.x.k)∧w.cell? ⟨b,o+2,none⟩=some (.string s.x.se)∧w.cell? ⟨b,o+3,none⟩=some (.int .i64 s.x.v)∧w.cell? ⟨b,o+4,none⟩=some (.string s.x.wd)∧w.cell? ⟨b,o+5,none⟩=some (.int .u64 s.x.wt)∧w.cell? ⟨b,o+6,none⟩=some (.bool s.x.tm)∧w.cell? ⟨b,o+7,none⟩=some (.int .i64 s.x.ti)
theorem stc_past {w w':World} {b o:Nat} {s:St} (h:StCell w b o s) (hb:Below w.heap.size w w'):StCell w' b o s:=
 ⟨cell_past hb h.1,cell_past hb h.2.1,cell_past hb h.2.2.1,cell_past hb h.2.2.2.1,cell_past hb h.2.2.2.2.1,cell_past hb h.2.2.2.2.2.1,cell_past hb h.2.2.2.2.2.2.1,cell_past hb h.2.2.2.2.2.2.2⟩
def StsAt (w:World) (ao:Option Addr) (L:List St):Prop:=0<L.length→∃ b off,ao=some ⟨b,off,none⟩∧∀ i s,L[i]?=some s→StCell w b (off+i*8) s
theorem sts_past {w w':World} {ao:Option Addr} {L:List St} (h:StsAt w ao L) (hb:Below w.heap.size w w'):StsAt w' ao L:=fun h0=>by
 obtain ⟨b,off,e,hc⟩:=h h0;exact ⟨b,off,e,fun i s hi=>stc_past (hc i s hi) hb⟩
def StR (s:St):Prop:=s.x.B=true∧winB s.n=true
inductive CoI:List St→List Ce→Prop
 | nil:CoI [] []
 | snoc (L:List St) (R R':List Ce) (s:St) (h:CoI L R) (f:StR s) (p:PuA R s.n s.x R' 0):CoI (L ++ [s]) R'
theorem coi_nil {R:List Ce} (h:CoI [] R):R=[]:=by
 generalize hB:([]:List St)=B at h
 cases h with
 | nil=>rfl
 | snoc B R R' c h s=>exact absurd hB (by simp)
theorem coi_snoc {B:List St} {R:List Ce} {c:St} (h:CoI (B ++ [c]) R):∃ R1,CoI B R1∧StR c∧PuA R1 c.n c.x R 0:=by
 generalize hB:B ++ [c]=D at h
 cases h with
 | nil=>exact absurd hB (by simp)
 | snoc B' R1 R' c' h f s=>
  obtain ⟨rfl,e⟩:=List.append_inj' hB rfl;obtain rfl:c=c':=by simpa using e
  exact ⟨R1,h,f,s⟩
theorem ser_of {x:Sx} (h:x.B=true):serRB x.se=true:=by
 unfold Sx.B smpB at h;simp only [Bool.and_eq_true] at h;exact h.1.1.1.2
theorem put_has {g o:Ag} {x:Sx} (h:AgPut g x o) (hg:agB g=true) (hx:x.B=true) (hk:g.k=x.k) (ok:AgOk g) (ox:x.Ok):o.s≠0:=by
 unfold AgPut at h;rw [if_pos (by first | exact ⟨hg,hx,hk⟩ | exact ⟨hg,hk,hx⟩)] at h;unfold AgMrg at h
 split at h
 ·obtain ⟨E,R,m,rfl⟩:=h
  show wAdd g.s (oneA x).s≠0
  have e:(oneA x).s=1:=by unfold oneA;split <;> first | rfl | (split <;> first | rfl | (split <;> rfl))
  rw [e];have:=ok.s;unfold U64 at this;unfold wAdd
  split <;> omega
 ·rename_i q
  exact absurd ⟨hg,oneA_right ox hx,hk.trans (oneA_k hx).symm⟩ q
theorem csR_ptl {R R':List Ce} {n:Int} {s:ByteArray} {o:Ag} (r:csR R=true) (h:PtL R n s o R') (hn:winB n=true) (hs:serRB s=true) (ho:agB o=true) (hz:o.s≠0) (hl:R'.length≤60):csR R'=true:=by
 obtain ⟨h1,h2,h3⟩:=csR_iff.1 r;refine csR_iff.2 ⟨hl,fun c hc=>?_,ptl_asc h h3⟩;have h':R'.map Ce.key=(R.filter (loF n s) ++ ⟨n,s,o,⟨none,0,none,0,none,0,none,0⟩⟩ :: R.filter (hiF n s)).map Ce.key:=by rw [List.map_append,List.map_cons];exact h
 obtain ⟨d,hd,e1,e2,e3⟩:=key_mem h' hc;have e:cRi c=cRi d:=by unfold cRi;rw [e1,e2,e3]
 rw [e];rcases List.mem_append.1 hd with hd | hd
 ·exact h2 d (List.mem_filter.1 hd).1
 ·rcases List.mem_cons.1 hd with rfl | hd
  ·unfold cRi
   simp [hn,hs,ho,hz]
  ·exact h2 d (List.mem_filter.1 hd).1
theorem pua_step {R R':List Ce} {n:Int} {x:Sx} (r:csR R=true) (q:CnQ R) (ox:x.Ok) (hx:x.B=true) (hn:winB n=true) (p:PuA R n x R' 0):csR R'=true∧CnQ R':=by
 have asc:=(csR_iff.1 r).2.2;have kw:KeyOk n x.se:=⟨win_i64 hn,ox.se⟩;generalize hc0:(0:Int)=c0 at p
 cases p with
 | kind=>exact absurd hc0 (by decide)
 | full=>exact absurd hc0 (by decide)
 | there c o R' hc k1 k2 hk hp hR=>
  obtain ⟨a1,a2,_⟩:=put_stays ox (q.ok c hc) hp
  have hl:R'.length≤60:=by
   have e:=congrArg List.length hR;simp only [List.length_map,List.length_append,List.length_cons] at e;have sp:=congrArg List.length (yes_split asc hc);rw [k1,k2] at sp;simp only [List.length_append,List.length_cons] at sp;have:=(csR_iff.1 r).1;omega
  exact ⟨csR_ptl r hR hn (ser_of hx) (a2 (q.rt c hc)) (put_has hp (q.rt c hc) hx hk (q.ok c hc) ox) hl,q.ptl hR kw a1 (put_few5 hp hx (q.rt c hc) hk).sm (a2 (q.rt c hc))⟩
 | new o R' hno hl hp hR=>
  obtain ⟨b1,b4⟩:=(smp_parts hx).1;obtain ⟨g1,g2,g3,g4,_⟩:=agNew_all b1 b4;obtain ⟨a1,a2,_⟩:=put_stays ox g2 hp
  have hl':R'.length≤60:=by
   have e:=congrArg List.length hR;simp only [List.length_map,List.length_append,List.length_cons] at e;have:=(no_perm hno).length_eq;simp only [List.length_append] at this;omega
  exact ⟨csR_ptl r hR hn (ser_of hx) (a2 g1) (put_has hp g1 hx g4 g2 ox) hl',q.ptl hR kw a1 (put_few5 hp hx g1 g4).sm (a2 g1)⟩
theorem CoI.right {L:List St} {R:List Ce} (h:CoI L R):(∀ s∈L,s.x.Ok)→csR R=true∧CnQ R:=by
 induction h with
 | nil=>intro _;exact ⟨csR_iff.2 ⟨by simp,by simp,.nil⟩,⟨by simp,by simp,by simp,by simp⟩⟩
 | snoc L R R' s h f p ih=>
  intro ok;obtain ⟨r,q⟩:=ih (fun s hs=>ok s (by simp [hs]));exact pua_step r q (ok s (by simp)) f.1 f.2 p
def aln:ByteArray:=⟨#[97,108,111,110,101]⟩
theorem aln_sh {R:List Ce} (h:csR R=true):shB aln R=true:=by
 unfold shB;rw [h];have:nameB aln=true:=by decide
 rw [this];rfl
theorem pua_keys {R R2 M:List Ce} {n code:Int} {x:Sx} (p:PuA R n x M code) (k:R.map Ce.key=R2.map Ce.key):PuA R2 n x M code:=by
 cases p with
 | kind c hc k1 k2 hk=>
  obtain ⟨d,hd,e1,e2,e3⟩:=key_mem k hc;exact .kind d hd (e1.trans k1) (e2.trans k2) (by rw [e3];exact hk)
 | there c o R hc k1 k2 hk hp hR=>
  obtain ⟨d,hd,e1,e2,e3⟩:=key_mem k hc;exact .there d o _ hd (e1.trans k1) (e2.trans k2) (by rw [e3];exact hk) (by rw [e3];exact hp) (hR.key k)
 | full hn hl=>exact .full (fun q=>hn ((has_key k).2 q)) (by rw [← map_len k];exact hl)
 | new o R hn hl hp hR=>exact .new o _ (fun q=>hn ((has_key k).2 q)) (by rw [← map_len k];exact hl) hp (hR.key k)
theorem pua_same {R M M2:List Ce} {n c c2:Int} {x:Sx} (r:csR R=true) (f:x.B=true∧winB n=true) (p:PuA R n x M c) (p2:PuA R n x M2 c2):M.map Ce.key=M2.map Ce.key∧c=c2:=by
 have hh:shB aln R=true∧x.B=true∧winB n=true:=⟨aln_sh r,f.1,f.2⟩;rcases p.told hh with ⟨rfl,a⟩ | ⟨h0,rfl,a⟩
 ·rcases p2.told hh with ⟨rfl,a2⟩ | ⟨h0,rfl,a2⟩
  ·obtain ⟨_,q,_,_⟩:=a.same a2;exact ⟨q,rfl⟩
  ·obtain ⟨_,_,_,q⟩:=a.same a2;exact absurd q.symm h0
 ·rcases p2.told hh with ⟨rfl,a2⟩ | ⟨h0',rfl,a2⟩
  ·obtain ⟨_,_,_,q⟩:=a.same a2;exact absurd q h0
  ·obtain ⟨_,_,_,q⟩:=a.same a2;exact ⟨rfl,q⟩
theorem CoI.one {L:List St} {R:List Ce} (h:CoI L R):(∀ s∈L,s.x.Ok)→∀ {R2},CoI L R2→R.map Ce.key=R2.map Ce.key:=by
 induction h with
 | nil=>intro _ R2 k;rw [coi_nil k]
 | snoc L R R' s h f p ih=>
  intro ok R2 k;obtain ⟨R1,k1,_,k2⟩:=coi_snoc k;have ok':∀ s∈L,s.x.Ok:=fun s hs=>ok s (by simp [hs]);exact (pua_same (h.right ok').1 f p (pua_keys k2 (ih ok' k1).symm)).1
theorem coi_pre:∀ (B:List St) {R:List Ce},CoI B R→∀ k c,B[k]?=some c→∃ R1 R2,CoI (B.take k) R1∧StR c∧PuA R1 c.n c.x R2 0:=by
 intro B R h
 induction h with
 | nil=>intro k c e;simp at e
 | snoc B R R' c h f s ih=>
  intro k d e;by_cases hk:k<B.length
  ·rw [List.getElem?_append_left hk] at e
   obtain ⟨R1,R2,q1,q2⟩:=ih k d e;exact ⟨R1,R2,by rw [List.take_append_of_le_length (by omega)];exact q1,q2⟩
  ·have hk2:=(List.getElem?_eq_some_iff.1 e).1
   simp at hk2;obtain rfl:k=B.length:=by omega
   rw [List.getElem?_append_right (Nat.le_refl _)] at e;obtain rfl:c=d:=by simpa using e
   exact ⟨R,R',by rw [List.take_left];exact h,f,s⟩
inductive CoR (L:List St):List Ce→Int→Prop
 | size (h:400<L.length):CoR L [] 2
 | ok (R:List Ce) (h:¬ 400<L.length) (m:CoI L R):CoR L R 0
 | form (h:¬ 400<L.length) (k:Nat) (s:St) (M:List Ce) (e:L[k]?=some s) (m:CoI (L.take k) M) (f:¬ StR s):CoR L [] 1
 | fall (h:¬ 400<L.length) (k:Nat) (s:St) (M:List Ce) (code:Int) (e:L[k]?=some s) (m:CoI (L.take k) M) (f:StR s) (p:PuA M s.n s.x [] code) (z:code≠0):CoR L [] code
theorem CoR.same {L:List St} {R R2:List Ce} {c c2:Int} (ok:∀ s∈L,s.x.Ok) (h:CoR L R c) (k:CoR L R2 c2):R.map Ce.key=R2.map Ce.key∧c=c2:=by
 have okt:∀ i,∀ s∈L.take i,s.x.Ok:=fun i s hs=>ok s (List.mem_of_mem_take hs)
 -- a place where it falls: none ahead of it falls,and it is but one
 have early:∀ {i j:Nat} {s t:St} {M1 M2:List Ce},L[i]?=some s→CoI (L.take i) M1→(¬ StR s∨∃ code,PuA M1 s.n s.x [] code∧code≠0∧StR s)→L[j]?=some t→CoI (L.take j) M2→¬ i<j:=fun {i j s t M1 M2} e1 m1 f1 e2 m2 hij=>by
  have e3:(L.take j)[i]?=some s:=by rw [List.getElem?_take,if_pos hij];exact e1
  obtain ⟨Q1,Q2,q1,q2,q3⟩:=coi_pre _ m2 i s e3;rw [List.take_take,Nat.min_eq_left (by omega)] at q1;rcases f1 with f1 | ⟨code,p,z,_⟩
  ·exact f1 q2
  ·have o:=m1.one (okt i) q1
   have:=(pua_same (q1.right (okt i)).1 q2 (pua_keys p o) q3).2;exact z this
 have whole:∀ {i:Nat} {s:St} {M1 M:List Ce},L[i]?=some s→CoI (L.take i) M1→(¬ StR s∨∃ code,PuA M1 s.n s.x [] code∧code≠0∧StR s)→CoI L M→False:=fun {i s M1 M} e1 m1 f1 m=>by
  obtain ⟨Q1,Q2,q1,q2,q3⟩:=coi_pre _ m i s e1;rcases f1 with f1 | ⟨code,p,z,_⟩
  ·exact f1 q2
  ·have o:=m1.one (okt i) q1
   exact z (pua_same (q1.right (okt i)).1 q2 (pua_keys p o) q3).2
 cases h with
 | size h=>cases k with
  | size=>exact ⟨rfl,rfl⟩
  | ok _ h'=>exact absurd h h'
  | form h'=>exact absurd h h'
  | fall h'=>exact absurd h h'
 | ok R h m=>cases k with
  | size h'=>exact absurd h' h
  | ok R2 _ m2=>exact ⟨m.one ok m2,rfl⟩
  | form _ i s M e m1 f=>exact (whole e m1 (.inl f) m).elim
  | fall _ i s M code e m1 f p z=>exact (whole e m1 (.inr ⟨_,p,z,f⟩) m).elim
 | form h i s M e m1 f=>cases k with
  | size h'=>exact absurd h' h
  | ok R2 _ m2=>exact (whole e m1 (.inl f) m2).elim
  | form=>exact ⟨rfl,rfl⟩
  | fall _ j t M2 code e2 m2 f2 p z=>
   have a1:=early e m1 (.inl f) e2 m2;have a2:=early e2 m2 (.inr ⟨_,p,z,f2⟩) e m1;obtain rfl:i=j:=by omega
   rw [e] at e2;cases e2;exact absurd f2 f
 | fall h i s M code e m1 f p z=>cases k with
  | size h'=>exact absurd h' h
  | ok R2 _ m2=>exact (whole e m1 (.inr ⟨_,p,z,f⟩) m2).elim
  | form _ j t M2 e2 m2 f2=>
   have a1:=early e m1 (.inr ⟨_,p,z,f⟩) e2 m2;have a2:=early e2 m2 (.inl f2) e m1;obtain rfl:i=j:=by omega
   rw [e] at e2;cases e2;exact absurd f f2
  | fall _ j t M2 code2 e2 m2 f2 p2 z2=>
   have a1:=early e m1 (.inr ⟨_,p,z,f⟩) e2 m2;have a2:=early e2 m2 (.inr ⟨_,p2,z2,f2⟩) e m1;obtain rfl:i=j:=by omega
   rw [e] at e2;cases e2;have o:=m1.one (okt i) m2;exact ⟨rfl,(pua_same (m2.right (okt i)).1 f (pua_keys p o) p2).2⟩
end Go.Proofs.YthchmdmncmioiaaGreatDoor
