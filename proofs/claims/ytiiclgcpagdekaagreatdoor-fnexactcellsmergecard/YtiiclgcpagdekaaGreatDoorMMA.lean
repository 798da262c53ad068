/-
  Cells brought to cells in order, one by one: what CellsMerge answers, and that there is but one. The mathematics.
-/
import Derived.Test.YtiiclgcpagdekaaGreatDoorMPJ
namespace Go.Proofs.YtiiclgcpagdekaaGreatDoor
set_option linter.unusedVariables false
set_option linter.unusedSimpArgs false
open Go.ChangeShapes Go.WideShapes Go.ChangeAt Go.RowKit Go.PlainAid Go.Lib Go.Maps
set_option maxRecDepth 10000
def MsA (A:List Ce) (c:Ce) (R:List Ce):Prop:=
  (∃ d o,d∈A∧d.n=c.n∧d.s=c.s∧d.g.k=c.g.k∧AgMrg d.g c.g o∧PtL A c.n c.s o R)∨(¬ HasK A c.n c.s∧PtL A c.n c.s c.g R)
def MsB (A:List Ce) (c:Ce):Prop:=∃ d∈A,d.n=c.n∧d.s=c.s∧¬ d.g.k=c.g.k
inductive Mgs (A:List Ce):List Ce→List Ce→Prop
  | nil (R:List Ce) (h:R.map Ce.key=A.map Ce.key):Mgs A [] R
  | snoc (B R R':List Ce) (c:Ce) (h:Mgs A B R) (s:MsA R c R'):Mgs A (B ++ [c]) R'
theorem ptl_asc {A R:List Ce} {n:Int} {s:ByteArray} {o:Ag} (h:PtL A n s o R) (a:AscC A):AscC R:=by
  refine asc_key (L:=A.filter (loF n s) ++ ⟨n,s,o,⟨none,0,none,0,none,0,none,0⟩⟩ :: A.filter (hiF n s)) ?_ (put_asc (c:=⟨n,s,o,⟨none,0,none,0,none,0,none,0⟩⟩) a)
  rw [List.map_append,List.map_cons];exact h
theorem MsA.asc {A R:List Ce} {c:Ce} (h:MsA A c R) (a:AscC A):AscC R:=by
  rcases h with ⟨d,o,_,_,_,_,_,h⟩ | ⟨_,h⟩
  · exact ptl_asc h a
  · exact ptl_asc h a
theorem Mgs.asc {A B R:List Ce} (h:Mgs A B R) (a:AscC A):AscC R:=by
  induction h with
  | nil R h=>exact asc_key h a
  | snoc B R R' c h s ih=>exact s.asc ih
theorem key3 {c d:Ce} (h:c.key=d.key):c.n=d.n∧c.s=d.s∧c.g=d.g:=by
  unfold Ce.key at h
  simp only [Prod.mk.injEq] at h
  exact h
theorem ptl_keys {A A2 R R2:List Ce} {n:Int} {s:ByteArray} {o:Ag} (h:PtL A n s o R) (k:A.map Ce.key=A2.map Ce.key) (r:R2.map Ce.key=R.map Ce.key):PtL A2 n s o R2:=by
  have:=h.key k
  unfold PtL at this ⊢
  rw [r];exact this
theorem MsA.keys {A A2 R R2:List Ce} {c c2:Ce} (h:MsA A c R) (k:A.map Ce.key=A2.map Ce.key) (e:c.key=c2.key) (r:R2.map Ce.key=R.map Ce.key):MsA A2 c2 R2:=by
  obtain ⟨e1,e2,e3⟩:=key3 e
  rcases h with ⟨d,o,hd,h1,h2,h3,h4,h5⟩ | ⟨h1,h5⟩
  · obtain ⟨d',hd',q1,q2,q3⟩:=key_mem k hd
    refine .inl ⟨d',o,hd',by rw [q1,h1,e1],by rw [q2,h2,e2],by rw [q3,h3,e3],by rw [q3,← e3];exact h4,?_⟩
    rw [← e1,← e2];exact ptl_keys h5 k r
  · refine .inr ⟨fun q=>h1 ?_,?_⟩
    · rw [← e1,← e2] at q;exact (has_key k).2 q
    · rw [← e1,← e2,← e3];exact ptl_keys h5 k r
theorem MsB.keys {A A2:List Ce} {c c2:Ce} (h:MsB A c) (k:A.map Ce.key=A2.map Ce.key) (e:c.key=c2.key):MsB A2 c2:=by
  obtain ⟨e1,e2,e3⟩:=key3 e
  obtain ⟨d,hd,h1,h2,h3⟩:=h
  obtain ⟨d',hd',q1,q2,q3⟩:=key_mem k hd
  exact ⟨d',hd',by rw [q1,h1,e1],by rw [q2,h2,e2],by rw [q3,← e3];exact h3⟩
theorem MsA.one {A R R2:List Ce} {c:Ce} (a:AscC A) (h:MsA A c R) (k:MsA A c R2):R.map Ce.key=R2.map Ce.key:=by
  rcases h with ⟨d,o,hd,h1,h2,h3,h4,h5⟩ | ⟨h1,h5⟩
  · rcases k with ⟨d',o',hd',k1,k2,k3,k4,k5⟩ | ⟨k1,k5⟩
    · obtain rfl:=asc_one_key a hd hd' (h1.trans k1.symm) (h2.trans k2.symm)
      obtain rfl:=h4.one k4
      exact h5.trans k5.symm
    · exact absurd ⟨d,hd,h1,h2⟩ k1
  · rcases k with ⟨d',o',hd',k1,k2,k3,k4,k5⟩ | ⟨k1,k5⟩
    · exact absurd ⟨d',hd',k1,k2⟩ h1
    · exact h5.trans k5.symm
theorem ms_not {A R:List Ce} {c:Ce} (a:AscC A) (h:MsA A c R) (k:MsB A c):False:=by
  obtain ⟨d',hd',k1,k2,k3⟩:=k
  rcases h with ⟨d,o,hd,h1,h2,h3,h4,h5⟩ | ⟨h1,h5⟩
  · obtain rfl:=asc_one_key a hd hd' (h1.trans k1.symm) (h2.trans k2.symm)
    exact k3 h3
  · exact h1 ⟨d',hd',k1,k2⟩
theorem mgs_nil {A R:List Ce} (h:Mgs A [] R):R.map Ce.key=A.map Ce.key:=by
  generalize hB:([]:List Ce)=B at h
  cases h with
  | nil R h=>exact h
  | snoc B R R' c h s=>exact absurd hB (by simp)
theorem mgs_snoc {A B R:List Ce} {c:Ce} (h:Mgs A (B ++ [c]) R):∃ R1,Mgs A B R1∧MsA R1 c R:=by
  generalize hB:B ++ [c]=D at h
  cases h with
  | nil R h=>exact absurd hB (by simp)
  | snoc B' R1 R' c' h s=>
    obtain ⟨rfl,e⟩:=List.append_inj' hB rfl
    obtain rfl:c=c':=by simpa using e
    exact ⟨R1,h,s⟩
theorem Mgs.keys {A A2 B R:List Ce} (h:Mgs A B R):∀ {B2 R2:List Ce},A.map Ce.key=A2.map Ce.key→B.map Ce.key=B2.map Ce.key→R2.map Ce.key=R.map Ce.key→Mgs A2 B2 R2:=by
  induction h with
  | nil R h => intro B2 R2 k b r; obtain rfl : B2 = [] := by simpa using b.symm
               exact .nil _ (r.trans (h.trans k))
  | snoc B R R' c h s ih=>
    intro B2 R2 k b r
    obtain ⟨B3,c3,rfl⟩:∃ B3 c3,B2=B3 ++ [c3]:=by
      have hne:B2≠[]:=fun e=>by rw [e] at b;simp at b
      exact ⟨B2.dropLast,B2.getLast hne,(List.dropLast_concat_getLast hne).symm⟩
    rw [List.map_append,List.map_append] at b
    obtain ⟨b1,b2⟩:=List.append_inj' b rfl
    exact .snoc B3 R _ c3 (ih k b1 rfl) (s.keys rfl (by simpa using b2) r)
theorem Mgs.one {A B R:List Ce} (a:AscC A) (h:Mgs A B R):∀ {R2},Mgs A B R2→R.map Ce.key=R2.map Ce.key:=by
  induction h with
  | nil R h=>intro R2 k;exact h.trans (mgs_nil k).symm
  | snoc B R R' c h s ih=>
    intro R2 k
    obtain ⟨R1,k1,k2⟩:=mgs_snoc k
    exact MsA.one (h.asc a) s (k2.keys (ih k1).symm rfl rfl)
theorem mgs_pre {A:List Ce}:∀ (B:List Ce) {R:List Ce},Mgs A B R→∀ k c,B[k]?=some c→∃ R1 R2,Mgs A (B.take k) R1∧MsA R1 c R2:=by
  intro B R h
  induction h with
  | nil R h=>intro k c e;simp at e
  | snoc B R R' c h s ih=>
    intro k d e
    by_cases hk:k<B.length
    · rw [List.getElem?_append_left hk] at e
      obtain ⟨R1,R2,q1,q2⟩:=ih k d e
      exact ⟨R1,R2,by rw [List.take_append_of_le_length (by omega)];exact q1,q2⟩
    · have hk2:=(List.getElem?_eq_some_iff.1 e).1
      simp at hk2
      obtain rfl:k=B.length:=by omega
      rw [List.getElem?_append_right (Nat.le_refl _)] at e
      obtain rfl:c=d:=by simpa using e
      exact ⟨R,R',by rw [List.take_left];exact h,s⟩
def MgA (a b R:List Ce):Prop:=
  if csR a=true∧csR b=true then (∃ M,Mgs a b M∧(if M.length≤60 then R.map Ce.key=M.map Ce.key else R=[]))∨((∃ k c M,b[k]?=some c∧Mgs a (b.take k) M∧MsB M c)∧R=[]) else R=[]
theorem MgA.no {a b:List Ce} (h:¬ (csR a=true∧csR b=true)):MgA a b []:=by unfold MgA;rw [if_neg h]
theorem MgA.ok {a b M:List Ce} (h:csR a=true∧csR b=true) (m:Mgs a b M) (l:M.length≤60):MgA a b M:=by unfold MgA;rw [if_pos h];exact .inl ⟨M,m,by rw [if_pos l]⟩
theorem MgA.long {a b M:List Ce} (h:csR a=true∧csR b=true) (m:Mgs a b M) (l:¬ M.length≤60):MgA a b []:=by unfold MgA;rw [if_pos h];exact .inl ⟨M,m,by rw [if_neg l]⟩
theorem MgA.bad {a b M:List Ce} {k:Nat} {c:Ce} (h:csR a=true∧csR b=true) (e:b[k]?=some c) (m:Mgs a (b.take k) M) (s:MsB M c):MgA a b []:=by unfold MgA;rw [if_pos h];exact .inr ⟨⟨k,c,M,e,m,s⟩,rfl⟩
theorem MgA.keys {a b a2 b2 R:List Ce} (h:MgA a b R) (ka:a.map Ce.key=a2.map Ce.key) (kb:b.map Ce.key=b2.map Ce.key):MgA a2 b2 R:=by
  unfold MgA at h ⊢
  rw [csR_key ka,csR_key kb] at h
  split at h
  · rename_i q
    rw [if_pos q]
    rcases h with ⟨M,m,h⟩ | ⟨⟨k,c,M,e,m,s⟩,h⟩
    · exact .inl ⟨M,m.keys ka kb rfl,h⟩
    · have e2:(b.map Ce.key)[k]?=(b2.map Ce.key)[k]?:=by rw [kb]
      rw [List.getElem?_map,List.getElem?_map,e] at e2
      cases q2:b2[k]? with
      | none=>rw [q2] at e2;simp at e2
      | some c2=>
        rw [q2] at e2
        have e3:c.key=c2.key:=by simpa using e2
        exact .inr ⟨⟨k,c2,M,q2,m.keys ka (by rw [List.map_take,List.map_take,kb]) rfl,s.keys rfl e3⟩,h⟩
  · rename_i q
    rw [if_neg q];exact h
theorem MgA.same {a b R R2:List Ce} (h:MgA a b R) (k:MgA a b R2):R.map Ce.key=R2.map Ce.key:=by
  unfold MgA at h k
  split at h
  · rename_i q
    rw [if_pos q] at k
    have asc:=(csR_iff.1 q.1).2.2
    rcases h with ⟨M,m,h⟩ | ⟨⟨i,c,M,e,m,s⟩,h⟩
    · rcases k with ⟨M2,m2,k⟩ | ⟨⟨i2,c2,M2,e2,m2,s2⟩,k⟩
      · have o:=m.one asc m2
        have l:=map_len o
        split at h
        · rw [if_pos (by omega)] at k;rw [h,k,o]
        · rw [if_neg (by omega)] at k;rw [h,k]
      · obtain ⟨R1,R3,q1,q2⟩:=mgs_pre b m i2 c2 e2
        exact absurd (s2.keys (m2.one asc q1) rfl) (fun z=>ms_not (q1.asc asc) q2 z)
    · rcases k with ⟨M2,m2,k⟩ | ⟨⟨i2,c2,M2,e2,m2,s2⟩,k⟩
      · obtain ⟨R1,R3,q1,q2⟩:=mgs_pre b m2 i c e
        exact absurd (s.keys (m.one asc q1) rfl) (fun z=>ms_not (q1.asc asc) q2 z)
      · rw [h,k]
  · rename_i q
    rw [if_neg q] at k
    rw [h,k]
structure CnQ (M:List Ce):Prop where
  ok:∀ c∈M,AgOk c.g
  sm:∀ c∈M,AgSm c.g
  rt:∀ c∈M,agB c.g=true
  ky:∀ c∈M,KeyOk c.n c.s
theorem CnQ.keys {M L:List Ce} (h:CnQ L) (k:M.map Ce.key=L.map Ce.key):CnQ M:=by
  refine ⟨fun c hc=>?_,fun c hc=>?_,fun c hc=>?_,fun c hc=>?_⟩ <;> obtain ⟨d,hd,e1,e2,e3⟩:=key_mem k hc
  · rw [← e3];exact h.ok d hd
  · rw [← e3];exact h.sm d hd
  · rw [← e3];exact h.rt d hd
  · rw [← e1,← e2];exact h.ky d hd
theorem CnQ.ptl {A R:List Ce} {n:Int} {s:ByteArray} {o:Ag} (q:CnQ A) (h:PtL A n s o R) (k:KeyOk n s) (ok:AgOk o) (sm:AgSm o) (rt:agB o=true):CnQ R:=by
  refine CnQ.keys (L:=A.filter (loF n s) ++ ⟨n,s,o,⟨none,0,none,0,none,0,none,0⟩⟩ :: A.filter (hiF n s)) ?_ (by rw [List.map_append,List.map_cons];exact h)
  have mem:∀ c∈A.filter (loF n s) ++ ⟨n,s,o,⟨none,0,none,0,none,0,none,0⟩⟩ :: A.filter (hiF n s),c∈A∨c=⟨n,s,o,⟨none,0,none,0,none,0,none,0⟩⟩:=fun c hc=>by
    rcases List.mem_append.1 hc with hc | hc
    · exact .inl (List.mem_filter.1 hc).1
    · rcases List.mem_cons.1 hc with rfl | hc
      · exact .inr rfl
      · exact .inl (List.mem_filter.1 hc).1
  refine ⟨fun c hc=>?_,fun c hc=>?_,fun c hc=>?_,fun c hc=>?_⟩ <;> rcases mem c hc with hc | rfl
  · exact q.ok c hc
  · exact ok
  · exact q.sm c hc
  · exact sm
  · exact q.rt c hc
  · exact rt
  · exact q.ky c hc
  · exact k
theorem mrg_all {d c:Ce} {o:Ag} (ok:AgOk d.g) (ok':AgOk c.g) (rt:agB d.g=true) (rt':agB c.g=true) (hk:d.g.k=c.g.k) (h:AgMrg d.g c.g o):AgOk o∧AgSm o∧agB o=true:=by
  obtain ⟨a,b,_⟩:=mrg_stays ⟨rt,rt',hk⟩ ok ok' h
  exact ⟨b,(mrg_few5 h).sm,a⟩
theorem CnQ.step {A R:List Ce} {c:Ce} (q:CnQ A) (h:MsA A c R) (ok:AgOk c.g) (sm:AgSm c.g) (rt:agB c.g=true) (ky:KeyOk c.n c.s):CnQ R:=by
  rcases h with ⟨d,o,hd,h1,h2,h3,h4,h5⟩ | ⟨h1,h5⟩
  · obtain ⟨a1,a2,a3⟩:=mrg_all (q.ok d hd) ok (q.rt d hd) rt h3 h4
    exact q.ptl h5 ky a1 a2 a3
  · exact q.ptl h5 ky ok sm rt
theorem MsA.len {A R:List Ce} {c:Ce} (a:AscC A) (h:MsA A c R):R.length≤A.length+1:=by
  rcases h with ⟨d,o,hd,h1,h2,h3,h4,h5⟩ | ⟨h1,h5⟩
  · have e:=congrArg List.length h5
    simp only [List.length_map,List.length_append,List.length_cons] at e
    have sp:=congrArg List.length (yes_split a hd)
    rw [h1,h2] at sp
    simp only [List.length_append,List.length_cons] at sp
    omega
  · have e:=congrArg List.length h5
    simp only [List.length_map,List.length_append,List.length_cons] at e
    have:=(no_perm h1).length_eq
    simp only [List.length_append] at this
    omega
theorem Mgs.len {A B R:List Ce} (a:AscC A) (h:Mgs A B R):R.length≤A.length+B.length:=by
  induction h with
  | nil R h=>have:=map_len h;simp;omega
  | snoc B R R' c h s ih=>have:=s.len (h.asc a);simp;omega
end Go.Proofs.YtiiclgcpagdekaaGreatDoor
namespace Go.Proofs.YtiiclgcpagdekaaGreatDoor
set_option linter.unusedVariables false
set_option linter.unusedSimpArgs false
open Go.ChangeShapes Go.WideShapes Go.ChangeAt Go.RowKit Go.PlainAid Go.Lib
set_option maxRecDepth 10000
theorem mg_emptyN {E R E' R':List Int} (h:hlB E R=true) (m:Mg E R [] [] E' R'):E'=E∧R'=R:=by
  have c1:=Can.self h
  have c2:=Can.self (E:=[]) (R:=[]) (by decide)
  have a:=mg_can c1 c2 m
  refine a.one c1 ?_ (fun x=>?_) ?_
  · simp
  · simp [mem_uniU]
  · have:padR []=zer:=rfl
    rw [this];exact mx_zer c1.okB
theorem addH_0N {h l:Int} (hh:I64 h) (hl:U64 l):addH h l 0 0=h:=by
  unfold addH addC
  unfold U64 at hl;unfold I64 at hh
  unfold wrap64;omega
theorem addL_0N {l:Int} (hl:U64 l):addL l 0=l:=by
  unfold addL uw;unfold U64 at hl;omega
theorem mrg_newN {b o:Ag} (ok:AgOk b) (r:agB b=true) (h:AgMrg b (agNew b.k) o):o=b:=by
  have n:=agB_no r
  have e:agNew b.k=⟨b.k,0,0,0,0,if b.k=2 then -1 else 0,0,[],[],0,0,[],[]⟩:=by unfold agNew;rw [if_pos ⟨n.k1,n.k4⟩]
  have rn:=(agNew_all n.k1 n.k4).1
  have ek:(agNew b.k).k=b.k:=by rw [e]
  unfold AgMrg at h
  rw [if_pos ⟨r,rn,ek.symm⟩] at h
  obtain ⟨E,R,m,rfl⟩:=h
  rw [e] at m ⊢
  obtain ⟨rfl,rfl⟩:=mg_emptyN n.hl m
  have sP:=(binsB_iff.1 (skB_and.1 n.sk).1).1
  have sN:=(binsB_iff.1 (skB_and.1 n.sk).2).1
  unfold agMg
  dsimp only
  rw [wAdd_0 ok.s,wAdd_0 ok.z,mrg_nil',mrg_nil',keep_same sP,keep_same sN,addH_0N ok.h ok.l,addH_0N ok.x ok.y,addL_0N ok.l,addL_0N ok.y]
  by_cases e2:b.k=2
  · rw [if_pos e2,if_pos e2,if_pos e2]
    have t:=agB_tail r e2
    have hL:¬ gLate b.a b.t 0 (-1)=true:=by
      unfold tail2 at t
      unfold gLate
      simp only [Bool.and_eq_true,Bool.or_eq_true,decide_eq_true_eq,beq_iff_eq] at t ⊢
      omega
    rw [(gA_not hL).1,(gA_not hL).2]
  · rw [if_neg e2,if_neg e2]
    obtain ⟨q1,q2⟩:=n.ng e2
    obtain ⟨k,s,h,l,a,t,z,P,N,x,y,E,R⟩:=b
    simp only at q1 q2
    subst q1;subst q2
    rfl
theorem mg_emptyM {E R E' R':List Int} (h:hlB E R=true) (m:Mg [] [] E R E' R'):E'=E∧R'=R:=by
  have c1:=Can.self h
  have c2:=Can.self (E:=[]) (R:=[]) (by decide)
  have a:=mg_can c2 c1 m
  refine a.one c1 ?_ (fun x=>?_) ?_
  · simp
  · simp [mem_uniU]
  · rw [mx_comm c2.okB c1.okB]
    have:padR []=zer:=rfl
    rw [this];exact mx_zer c1.okB
theorem new_mrg {b o:Ag} (ok:AgOk b) (r:agB b=true) (h:AgMrg (agNew b.k) b o):o=b:=by
  have n:=agB_no r
  have e:agNew b.k=⟨b.k,0,0,0,0,if b.k=2 then -1 else 0,0,[],[],0,0,[],[]⟩:=by unfold agNew;rw [if_pos ⟨n.k1,n.k4⟩]
  have rn:=(agNew_all n.k1 n.k4).1
  have ek:(agNew b.k).k=b.k:=by rw [e]
  unfold AgMrg at h
  rw [if_pos ⟨rn,r,ek⟩] at h
  obtain ⟨E,R,m,rfl⟩:=h
  rw [e] at m ⊢
  obtain ⟨rfl,rfl⟩:=mg_emptyM n.hl m
  have sP:=(binsB_iff.1 (skB_and.1 n.sk).1).1
  have sN:=(binsB_iff.1 (skB_and.1 n.sk).2).1
  have w0:∀ {z:Int},U64 z→wAdd 0 z=z:=fun {z} hz=>by unfold wAdd;unfold U64 at hz;rw [if_neg (by omega),Int.zero_add]
  have h0:∀ {h l:Int},I64 h→U64 l→addH 0 0 h l=h:=fun {h l} hh hl=>by
    unfold addH addC
    unfold U64 at hl;unfold I64 at hh
    unfold wrap64;omega
  have l0:∀ {l:Int},U64 l→addL 0 l=l:=fun {l} hl=>by unfold addL uw;unfold U64 at hl;omega
  unfold agMg
  dsimp only
  rw [w0 ok.s,w0 ok.z,mrg_nil,mrg_nil,keep_same sP,keep_same sN,h0 ok.h ok.l,h0 ok.x ok.y,l0 ok.l,l0 ok.y]
  by_cases e2:b.k=2
  · rw [if_pos e2,if_pos e2,if_pos e2]
    have t:=agB_tail r e2
    have hg:gA 0 (-1) b.a b.t=b.a∧gT 0 (-1) b.a b.t=b.t:=by
      unfold tail2 at t
      unfold gA gT gLate
      simp only [Bool.and_eq_true,Bool.or_eq_true,decide_eq_true_eq,beq_iff_eq] at t ⊢
      constructor <;> split <;> omega
    rw [hg.1,hg.2]
  · rw [if_neg e2,if_neg e2]
    obtain ⟨q1,q2⟩:=n.ng e2
    obtain ⟨k,s,h,l,a,t,z,P,N,x,y,E,R⟩:=b
    simp only at q1 q2
    subst q1;subst q2
    first | rfl | simp
end Go.Proofs.YtiiclgcpagdekaaGreatDoor
