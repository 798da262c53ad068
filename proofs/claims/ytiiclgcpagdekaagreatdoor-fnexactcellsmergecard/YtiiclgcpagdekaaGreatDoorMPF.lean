/-
 Where a cell is put; ShardPut of the program.
-/
import Derived.Test.YtiiclgcpagdekaaGreatDoorMCN
import Derived.Test.YtiiclgcpagdekaaGreatDoorMPB
namespace Go.Proofs.YtiiclgcpagdekaaGreatDoor
set_option linter.unusedVariables false
set_option linter.unusedSimpArgs false
open Go.ChangeShapes Go.WideShapes Go.ChangeAt Go.RowKit Go.PlainAid Go.Lib Go.Maps
set_option maxRecDepth 10000
def kC (n:Int) (s:ByteArray):Ce:=⟨n,s,agZero,⟨none,0,none,0,none,0,none,0⟩⟩
def loF (n:Int) (s:ByteArray) (c:Ce):Bool:=cAh c (kC n s)
def hiF (n:Int) (s:ByteArray) (c:Ce):Bool:=cAh (kC n s) c
def HasK (L:List Ce) (n:Int) (s:ByteArray):Prop:=∃ c∈L,c.n=n∧c.s=s
theorem cAh_left {a b c:Ce} (h:SameKey a b):cAh a c=cAh b c:=by unfold cAh;rw [h.1,h.2]
theorem cAh_right {a b c:Ce} (h:SameKey a b):cAh c a=cAh c b:=by unfold cAh;rw [h.1,h.2]
theorem no_perm {L:List Ce} {n:Int} {s:ByteArray} (h:¬ HasK L n s):L.Perm (L.filter (loF n s) ++ L.filter (hiF n s)):=by
 have e:L.filter (fun c=>!loF n s c)=L.filter (hiF n s):=List.filter_congr (fun c hc=>by
  cases q:loF n s c
  ·cases q2:hiF n s c
   ·exact absurd (cAh_tot q q2) (fun e=>h ⟨c,hc,e⟩)
   ·rfl
  ·rw [show hiF n s c=false from cAh_ant q];rfl)
 have p:=List.filter_append_perm (loF n s) L
 rw [e] at p
 exact p.symm
theorem yes_split {L:List Ce} {c:Ce} (hL:AscC L) (hc:c∈L):L=L.filter (loF c.n c.s) ++ c :: L.filter (hiF c.n c.s):=by
 obtain ⟨A,B,rfl⟩:=List.append_of_mem hc
 obtain ⟨a1,a2,a3⟩:=List.pairwise_append.1 hL
 obtain ⟨b1,b2⟩:=List.pairwise_cons.1 a2
 have k:SameKey (kC c.n c.s) c:=⟨rfl,rfl⟩
 have e1:A.filter (loF c.n c.s)=A:=List.filter_eq_self.2 (fun x hx=>by unfold loF;rw [cAh_right k];exact a3 x hx c (by simp))
 have e2:A.filter (hiF c.n c.s)=[]:=List.filter_eq_nil_iff.2 (fun x hx=>by unfold hiF;rw [cAh_left k,cAh_ant (a3 x hx c (by simp))];simp)
 have e3:B.filter (loF c.n c.s)=[]:=List.filter_eq_nil_iff.2 (fun x hx=>by unfold loF;rw [cAh_right k,cAh_ant (b1 x hx)];simp)
 have e4:B.filter (hiF c.n c.s)=B:=List.filter_eq_self.2 (fun x hx=>by unfold hiF;rw [cAh_left k];exact b1 x hx)
 have f1:loF c.n c.s c=false:=by unfold loF;rw [cAh_right k,cAh_irr]
 have f2:hiF c.n c.s c=false:=by unfold hiF;rw [cAh_left k,cAh_irr]
 rw [List.filter_append,List.filter_append,List.filter_cons,List.filter_cons,f1,f2,e1,e2,e3,e4]
 simp
theorem put_asc {L:List Ce} {c:Ce} (hL:AscC L):AscC (L.filter (loF c.n c.s) ++ c :: L.filter (hiF c.n c.s)):=by
 have k:SameKey (kC c.n c.s) c:=⟨rfl,rfl⟩
 have lo:∀ x∈L.filter (loF c.n c.s),cAh x c=true:=fun x hx=>by
  have:=(List.mem_filter.1 hx).2;unfold loF at this;rw [cAh_right k] at this;exact this
 have hi:∀ x∈L.filter (hiF c.n c.s),cAh c x=true:=fun x hx=>by
  have:=(List.mem_filter.1 hx).2;unfold hiF at this;rw [cAh_left k] at this;exact this
 refine List.pairwise_append.2 ⟨hL.filter _,List.pairwise_cons.2 ⟨hi,hL.filter _⟩,fun a ha b hb=>?_⟩
 rcases List.mem_cons.1 hb with rfl | hb
 ·exact lo a ha
 ·exact cAh_trans (lo a ha) (hi b hb)
def PtL (L:List Ce) (n:Int) (s:ByteArray) (o:Ag) (R:List Ce):Prop:=R.map Ce.key=(L.filter (loF n s)).map Ce.key ++ (n,s,o) :: (L.filter (hiF n s)).map Ce.key
theorem filters_key {n:Int} {s:ByteArray}:∀ {L M:List Ce},M.map Ce.key=L.map Ce.key→(M.filter (loF n s)).map Ce.key=(L.filter (loF n s)).map Ce.key∧(M.filter (hiF n s)).map Ce.key=(L.filter (hiF n s)).map Ce.key
 | [],[],_=>⟨rfl,rfl⟩
 | c :: L,d :: M,h=>by
  simp only [List.map_cons,List.cons.injEq] at h
  obtain ⟨q1,q2⟩:=filters_key (n:=n) (s:=s) h.2
  have e1:loF n s d=loF n s c:=cAh_key (c:=d) (d:=kC n s) (c':=c) (d':=kC n s) h.1 rfl
  have e2:hiF n s d=hiF n s c:=cAh_key (c:=kC n s) (d:=d) (c':=kC n s) (d':=c) rfl h.1
  simp only [List.filter_cons,e1,e2]
  constructor
  ·cases loF n s c <;> simp [q1,h.1]
  ·cases hiF n s c <;> simp [q2,h.1]
 | [],_ :: _,h=>by simp at h
 | _ :: _,[],h=>by simp at h
theorem PtL.key {L M R:List Ce} {n:Int} {s:ByteArray} {o:Ag} (h:PtL M n s o R) (k:M.map Ce.key=L.map Ce.key):PtL L n s o R:=by
 obtain ⟨q1,q2⟩:=filters_key (n:=n) (s:=s) k
 unfold PtL at h ⊢
 rw [← q1,← q2];exact h
inductive PtA (nm:ByteArray) (L:List Ce) (win:Int) (x:Sx):ByteArray→List Ce→Int→Prop
 | form (h:¬ (shB nm L=true∧x.B=true∧winB win=true)):PtA nm L win x ⟨#[]⟩ [] 1
 | kind (c:Ce) (h:shB nm L=true∧x.B=true∧winB win=true) (hc:c∈L) (k1:c.n=win) (k2:c.s=x.se) (hk:¬ c.g.k=x.k):PtA nm L win x ⟨#[]⟩ [] 9
 | there (c:Ce) (o:Ag) (R:List Ce) (h:shB nm L=true∧x.B=true∧winB win=true) (hc:c∈L) (k1:c.n=win) (k2:c.s=x.se) (hk:c.g.k=x.k) (hp:AgPut c.g x o) (hR:PtL L win x.se o R):PtA nm L win x nm R 0
 | full (h:shB nm L=true∧x.B=true∧winB win=true) (hn:¬ HasK L win x.se) (hl:60≤L.length):PtA nm L win x ⟨#[]⟩ [] 8
 | new (o:Ag) (R:List Ce) (h:shB nm L=true∧x.B=true∧winB win=true) (hn:¬ HasK L win x.se) (hl:L.length<60) (hp:AgPut (agNew x.k) x o) (hR:PtL L win x.se o R):PtA nm L win x nm R 0
theorem MpC.len {w:World} {b n:Nat} {L:List Ce} (h:MpC w b n L):∃ D:DataW Value,w.ownsMap Tryz.prog 96 rA b n D∧Maps.size D=L.length:=by
 obtain ⟨D,h1,h2⟩:=h
 exact ⟨D,h1,h2.sz⟩
structure AfA (M:List Ce) (m:Int) (s:ByteArray) (kind:Int) (g:Ag) (p:Pl) (code:Int):Prop where
 a:(∃ c∈M,c.n=m∧c.s=s∧c.g.k=kind∧g=c.g∧p=c.p∧code=0)∨(∃ c∈M,c.n=m∧c.s=s∧¬ c.g.k=kind∧g=agZero∧p=pl0∧code=9)∨(¬ HasK M m s∧g=agNew kind∧p=pl0∧code=0)
theorem c_aggFor {w:World} {b n:Nat} {M:List Ce} (m:Int) (s:ByteArray) (kind:Int) (h:MpC w b n M) (k:KeyOk m s) (h1:1≤kind) (h4:kind≤4) :
  Calls Tryz.prog 55 #[.map (some b),keyV m s,.int .i64 kind] w fun e w'=>∃ g p code,e=.returned (.tuple #[.agg (agArr g p),.int .i64 code])∧AfA M m s kind g p code∧Below w.heap.size w w':=by
 by_cases q:HasK M m s
 ·obtain ⟨c,hc,rfl,rfl⟩:=q
  by_cases hk:c.g.k=kind
  ·refine (c_aggFor_yes kind h hc hk).mono (fun e w' q=>⟨c.g,c.p,0,q.1,⟨.inl ⟨c,hc,rfl,rfl,hk,rfl,rfl,rfl⟩⟩,q.2⟩)
  ·refine (c_aggFor_bad kind h hc hk).mono (fun e w' q=>⟨agZero,pl0,9,q.1,⟨.inr (.inl ⟨c,hc,rfl,rfl,hk,rfl,rfl,rfl⟩)⟩,q.2⟩)
 ·refine (c_aggFor_no m s kind h k (fun d hd e=>q ⟨d,hd,e⟩) h1 h4).mono (fun e w' q2=>⟨agNew kind,pl0,0,q2.1,⟨.inr (.inr ⟨q,rfl,rfl,rfl⟩)⟩,q2.2⟩)
theorem mid_perm {A B:List Ce} {c:Ce}:(c :: (A ++ B)).Perm (A ++ c :: B):=List.perm_middle.symm
theorem putMap {D:DataW Value} {M:List Ce} {kind:Int} {g:Ag} {p:Pl} {c':Ce} (hH:HoldsC D M) (t:Tidy D) (hA:AscC M) (k:KeyOk c'.n c'.s) (af:AfA M c'.n c'.s kind g p 0):HoldsC (D.put (kL c'.n c'.s) (heldC c')) (M.filter (loF c'.n c'.s) ++ c' :: M.filter (hiF c'.n c'.s)):=by
 rcases af.a with ⟨c,hc,e1,e2,_⟩ | ⟨c,hc,_,_,_,_,_,e⟩ | ⟨hn,_⟩
 ·have sp:=yes_split hA hc
  rw [e1,e2] at sp
  have hp:M.Perm (c :: (M.filter (loF c'.n c'.s) ++ M.filter (hiF c'.n c'.s))):=by
   conv=>lhs;rw [sp]
   exact List.perm_middle
  exact ((hH.perm hp).put_old t (c:=c') ⟨e1,e2⟩).perm mid_perm
 ·cases e
 ·exact (((hH.perm (no_perm hn)).put_new t (c:=c') k (fun d hd e=>hn ⟨d,(no_perm hn).mem_iff.2 hd,e⟩))).perm mid_perm
theorem putCes {w w':World} {B:Nat} {M:List Ce} {c':Ce} (h:CesO w B M) (hb:Below w.heap.size w w') (hB:B≤w.heap.size) (ho:AgO w' w.heap.size c'.g c'.p):CesO w' B (M.filter (loF c'.n c'.s) ++ c' :: M.filter (hiF c'.n c'.s)):=by
 have h1:=h.add hb hB ho
 have s:(M.filter (loF c'.n c'.s) ++ M.filter (hiF c'.n c'.s)).Sublist M∨True:=.inr trivial
 refine CesO.perm (L:=c' :: (M.filter (loF c'.n c'.s) ++ M.filter (hiF c'.n c'.s))) ?_ mid_perm
 have hd:∀ x,loF c'.n c'.s x=true→hiF c'.n c'.s x=false:=fun x q=>cAh_ant q
 refine ⟨fun d hd'=>?_,List.pairwise_cons.2 ⟨fun d hd'=>?_,?_⟩⟩
 ·rcases List.mem_cons.1 hd' with rfl | q
  ·exact h1.o _ (by simp)
  ·refine h1.o d (List.mem_cons_of_mem _ ?_)
   rcases List.mem_append.1 q with q | q
   ·exact (List.mem_filter.1 q).1
   ·exact (List.mem_filter.1 q).1
 ·refine (List.pairwise_cons.1 h1.ap).1 d ?_
  rcases List.mem_append.1 hd' with q | q
  ·exact (List.mem_filter.1 q).1
  ·exact (List.mem_filter.1 q).1
 ·have ap:=(List.pairwise_cons.1 h1.ap).2
  refine List.pairwise_append.2 ⟨ap.filter _,ap.filter _,fun a ha b hb'=>?_⟩
  obtain ⟨a1,a2⟩:=List.mem_filter.1 ha
  obtain ⟨b1,b2⟩:=List.mem_filter.1 hb'
  obtain ⟨i,hi,rfl⟩:=List.getElem_of_mem a1
  obtain ⟨j,hj,rfl⟩:=List.getElem_of_mem b1
  have hne:i≠j:=fun e=>by subst e;rw [hd _ a2] at b2;cases b2
  rcases Nat.lt_or_gt_of_ne hne with q | q
  ·exact (List.pairwise_iff_getElem.1 ap) i j hi hj q
  ·exact ((List.pairwise_iff_getElem.1 ap) j i hj hi q).symm
theorem has_key {L M:List Ce} {m:Int} {s:ByteArray} (k:M.map Ce.key=L.map Ce.key):HasK M m s↔HasK L m s:=by
 constructor
 ·rintro ⟨c,hc,e1,e2⟩
  obtain ⟨d,hd,q1,q2,_⟩:=key_mem k hc
  exact ⟨d,hd,q1.trans e1,q2.trans e2⟩
 ·rintro ⟨c,hc,e1,e2⟩
  obtain ⟨d,hd,q1,q2,_⟩:=key_mem k.symm hc
  exact ⟨d,hd,q1.trans e1,q2.trans e2⟩
theorem af_ag {w:World} {B:Nat} {M:List Ce} {m:Int} {s:ByteArray} {kind:Int} {g:Ag} {p:Pl} {code:Int} (af:AfA M m s kind g p code) (h1:1≤kind) (h4:kind≤4) (hO:CesO w B M) (ok:∀ c∈M,AgOk c.g) (sm:∀ c∈M,AgSm c.g) (z:code=0):AgOk g∧AgSm g∧AgO w B g p:=by
 rcases af.a with ⟨c,hc,e1,e2,e3,rfl,rfl,_⟩ | ⟨c,hc,_,_,_,_,_,e⟩ | ⟨hn,rfl,rfl,_⟩
 ·exact ⟨ok c hc,sm c hc,hO.o c hc⟩
 ·rw [z] at e;cases e
 ·have e:agNew kind=⟨kind,0,0,0,0,if kind=2 then -1 else 0,0,[],[],0,0,[],[]⟩:=by unfold agNew;rw [if_pos ⟨h1,h4⟩]
  have zi:I64 0:=by unfold I64;omega
  have zu:U64 0:=by unfold U64;omega
  rw [e]
  exact ⟨⟨by show I64 kind;unfold I64;omega,zu,zi,zu,zi,by show I64 (if kind=2 then -1 else 0);split <;> (unfold I64;omega),zu,zi,zu,(fun b hb=>by cases hb),(fun b hb=>by cases hb),(fun b hb=>by cases hb),(fun b hb=>by cases hb)⟩,⟨Nat.zero_le _,Nat.zero_le _,Nat.zero_le _,Nat.zero_le _⟩,AgO.nil _ _ rfl rfl rfl rfl⟩
theorem AgO.plgP {w:World} {B:Nat} {g:Ag} {p:Pl} (h:AgO w B g p):PlG g p:=by
 have fb:∀ {ao:Option Addr} {n c:Nat} {L:List Bn},OwnB w B (.slice ao n c) n L→ao=none→c=0:=fun {ao n c L} o e=>by
  rcases o.2 with ⟨q,_⟩ | ⟨b,off,c',cur,q,_⟩
  ·cases q;rfl
  ·cases q;cases e
 have fn:∀ {kd:IntKind} {T:TypeId} {ao:Option Addr} {n c:Nat} {L:List Int},OwnN kd T w B (.slice ao n c) n L→(ao=none→c=0)∧Flat ao∧n≤c∧c≤maxLen:=fun {kd T ao n c L} o=>by
  rcases o.2.2 with ⟨q,q0⟩ | ⟨b,c',cur,q,_,_,q1,q2,_⟩
  ·cases q;exact ⟨fun _=>rfl,.inl rfl,Nat.le_refl _,Nat.zero_le _⟩
  ·cases q;exact ⟨(fun e=>by cases e),.inr ⟨_,_,rfl⟩,q1,q2⟩
 exact ⟨fb h.P,fb h.N,(fn h.E).1,(fn h.R).1,(fn h.E).2.1,(fn h.R).2.1,(fn h.E).2.2.1,(fn h.E).2.2.2⟩
def CeQ1 (M:List Ce):Prop:=(∀ c∈M,AgOk c.g)∧∀ c∈M,AgSm c.g
def PtP (w:World) (nm:ByteArray) (L:List Ce) (win:Int) (x:Sx) (e:Ending) (w':World):Prop:=∃ v nm' R code,e=.returned v∧PtA nm L win x nm' R code∧ShO w' w.heap.size v nm' R [] code∧Below w.heap.size w w'
theorem row_pastP {w w':World} {r:Nat} {b:Obj} (h:w.heap[r]?=some b) (hb:Below w.heap.size w w'):w'.heap[r]?=some b:=(hb.block _ (Array.getElem?_eq_some_iff.1 h).1).trans h
end Go.Proofs.YtiiclgcpagdekaaGreatDoor
