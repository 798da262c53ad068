/-
 Where a cell is put; ShardPut of the program.
-/
import Derived.Test.YthchmdmncmioiaaGreatDoorZCN
import Derived.Test.YthchmdmncmioiaaGreatDoorZPB
namespace Go.Proofs.YthchmdmncmioiaaGreatDoor
set_option linter.unusedVariables false
set_option linter.unusedSimpArgs false
open Go.ChangeShapes Go.WideShapes Go.ChangeAt Go.RowKit Go.PlainAid Go.Lib Go.Maps
set_option maxRecDepth 10000
def kC (n:Int) (s:ByteArray):Ce:=⟨n,s,QbA,⟨none,0,none,0,none,0,none,0⟩⟩
def loF (n:Int) (s:ByteArray) (c:Ce):Bool:=cAh c (kC n s)
def hiF (n:Int) (s:ByteArray) (c:Ce):Bool:=cAh (kC n s) c
def Qfc (L:List Ce) (n:Int) (s:ByteArray):Prop:=∃ c∈L,c.n=n/\c.s=s
theorem QfA {a b c:Ce} (h:QaT a b):cAh a c=cAh b c:=by unfold cAh;rw [h.1,h.2]
theorem QcK {a b c:Ce} (h:QaT a b):cAh c a=cAh c b:=by unfold cAh;rw [h.1,h.2]
theorem QeO {L:List Ce} {n:Int} {s:ByteArray} (h:¬ Qfc L n s):L.Perm (L.filter (loF n s) ++ L.filter (hiF n s)):=by
 have e:L.filter (fun c=>!loF n s c)=L.filter (hiF n s):=List.filter_congr (fun c hc=>by
  cases q:loF n s c
  ·cases q2:hiF n s c
   ·exact absurd (QhZ q q2) (fun e=>h ⟨c,hc,e⟩)
   ·rfl
  ·rw [show hiF n s c=false from Qd8 q];rfl)
 have p:=List.filter_append_perm (loF n s) L;rw [e] at p;exact p.symm
theorem QcL {L:List Ce} {c:Ce} (hL:AscC L) (hc:c∈L):L=L.filter (loF c.n c.s) ++ c :: L.filter (hiF c.n c.s):=by
 obtain ⟨A,B,rfl⟩:=List.append_of_mem hc;obtain ⟨a1,a2,a3⟩:=List.pairwise_append.1 hL;obtain ⟨b1,b2⟩:=List.pairwise_cons.1 a2;have k:QaT (kC c.n c.s) c:=⟨rfl,rfl⟩;have e1:A.filter (loF c.n c.s)=A:=List.filter_eq_self.2 (fun x hx=>by unfold loF;rw [QcK k];exact a3 x hx c (by simp));have e2:A.filter (hiF c.n c.s)=[]:=List.filter_eq_nil_iff.2 (fun x hx=>by unfold hiF;rw [QfA k,Qd8 (a3 x hx c (by simp))];simp);have e3:B.filter (loF c.n c.s)=[]:=List.filter_eq_nil_iff.2 (fun x hx=>by unfold loF;rw [QcK k,Qd8 (b1 x hx)];simp);have e4:B.filter (hiF c.n c.s)=B:=List.filter_eq_self.2 (fun x hx=>by unfold hiF;rw [QfA k];exact b1 x hx);have f1:loF c.n c.s c=false:=by unfold loF;rw [QcK k,Qd1]
 have f2:hiF c.n c.s c=false:=by unfold hiF;rw [QfA k,Qd1]
 rw [List.filter_append,List.filter_append,List.filter_cons,List.filter_cons,f1,f2,e1,e2,e3,e4];simp
theorem Qjr {L:List Ce} {c:Ce} (hL:AscC L):AscC (L.filter (loF c.n c.s) ++ c :: L.filter (hiF c.n c.s)):=by
 have k:QaT (kC c.n c.s) c:=⟨rfl,rfl⟩
 have lo:∀ x∈L.filter (loF c.n c.s),cAh x c=true:=fun x hx=>by
  have:=(List.mem_filter.1 hx).2;unfold loF at this;rw [QcK k] at this;exact this
 have hi:∀ x∈L.filter (hiF c.n c.s),cAh c x=true:=fun x hx=>by
  have:=(List.mem_filter.1 hx).2;unfold hiF at this;rw [QfA k] at this;exact this
 refine List.pairwise_append.2 ⟨hL.filter _,List.pairwise_cons.2 ⟨hi,hL.filter _⟩,fun a ha b hb=>?_⟩;rcases List.mem_cons.1 hb with rfl | hb
 ·exact lo a ha
 ·exact Qdw (lo a ha) (hi b hb)
def PtL (L:List Ce) (n:Int) (s:ByteArray) (o:Ag) (R:List Ce):Prop:=R.map Ce.key=(L.filter (loF n s)).map Ce.key ++ (n,s,o) :: (L.filter (hiF n s)).map Ce.key
theorem Qf6 {n:Int} {s:ByteArray}:∀ {L M:List Ce},M.map Ce.key=L.map Ce.key->(M.filter (loF n s)).map Ce.key=(L.filter (loF n s)).map Ce.key/\(M.filter (hiF n s)).map Ce.key=(L.filter (hiF n s)).map Ce.key
 | [],[],_=>⟨rfl,rfl⟩
 | c :: L,d :: M,h=>by
  simp only [List.map_cons,List.cons.injEq] at h;obtain ⟨q1,q2⟩:=Qf6 (n:=n) (s:=s) h.2;have e1:loF n s d=loF n s c:=Qdc (c:=d) (d:=kC n s) (c':=c) (d':=kC n s) h.1 rfl;have e2:hiF n s d=hiF n s c:=Qdc (c:=kC n s) (d:=d) (c':=kC n s) (d':=c) rfl h.1;simp only [List.filter_cons,e1,e2];constructor
  ·cases loF n s c <;> simp [q1,h.1]
  ·cases hiF n s c <;> simp [q2,h.1]
 | [],_ :: _,h=>by simp at h
 | _ :: _,[],h=>by simp at h
theorem PtL.key {L M R:List Ce} {n:Int} {s:ByteArray} {o:Ag} (h:PtL M n s o R) (k:M.map Ce.key=L.map Ce.key):PtL L n s o R:=by
 obtain ⟨q1,q2⟩:=Qf6 (n:=n) (s:=s) k;unfold PtL at h ⊢;rw [<- q1,<- q2];exact h
inductive PtA (nm:ByteArray) (L:List Ce) (win:Int) (x:Sx):ByteArray->List Ce->Int->Prop
 | form (h:¬ (shB nm L=true/\x.B=true/\QdO win=true)):PtA nm L win x ⟨#[]⟩ [] 1
 | kind (c:Ce) (h:shB nm L=true/\x.B=true/\QdO win=true) (hc:c∈L) (k1:c.n=win) (k2:c.s=x.se) (hk:¬ c.g.k=x.k):PtA nm L win x ⟨#[]⟩ [] 9
 | there (c:Ce) (o:Ag) (R:List Ce) (h:shB nm L=true/\x.B=true/\QdO win=true) (hc:c∈L) (k1:c.n=win) (k2:c.s=x.se) (hk:c.g.k=x.k) (hp:AgPut c.g x o) (hR:PtL L win x.se o R):PtA nm L win x nm R 0
 | full (h:shB nm L=true/\x.B=true/\QdO win=true) (hn:¬ Qfc L win x.se) (hl:60<=L.length):PtA nm L win x ⟨#[]⟩ [] 8
 | new (o:Ag) (R:List Ce) (h:shB nm L=true/\x.B=true/\QdO win=true) (hn:¬ Qfc L win x.se) (hl:L.length<60) (hp:AgPut (QaR x.k) x o) (hR:PtL L win x.se o R):PtA nm L win x nm R 0
theorem MpC.len {w:World} {b n:Nat} {L:List Ce} (h:MpC w b n L):∃ D:DataW Value,w.ownsMap Tryz.prog 85 rA b n D/\Maps.size D=L.length:=by
 obtain ⟨D,h1,h2⟩:=h;exact ⟨D,h1,h2.sz⟩
structure AfA (M:List Ce) (m:Int) (s:ByteArray) (kind:Int) (g:Ag) (p:Pl) (code:Int):Prop where
 a:(∃ c∈M,c.n=m/\c.s=s/\c.g.k=kind/\g=c.g/\p=c.p/\code=0)∨(∃ c∈M,c.n=m/\c.s=s/\¬ c.g.k=kind/\g=QbA/\p=pl0/\code=9)∨(¬ Qfc M m s/\g=QaR kind/\p=pl0/\code=0)
theorem Qk5 {w:World} {b n:Nat} {M:List Ce} (m:Int) (s:ByteArray) (kind:Int) (h:MpC w b n M) (k:QbI m s) (h1:1<=kind) (h4:kind<=4) :
  Calls Tryz.prog 42 #[.map (some b),Qkp m s,.int .i64 kind] w fun e w'=>∃ g p code,e=.returned (.tuple #[.agg (Qal g p),.int .i64 code])/\AfA M m s kind g p code/\Below w.heap.size w w':=by
 by_cases q:Qfc M m s
 ·obtain ⟨c,hc,rfl,rfl⟩:=q
  by_cases hk:c.g.k=kind
  ·refine (Qit kind h hc hk).mono (fun e w' q=>⟨c.g,c.p,0,q.1,⟨.inl ⟨c,hc,rfl,rfl,hk,rfl,rfl,rfl⟩⟩,q.2⟩)
  ·refine (QiV kind h hc hk).mono (fun e w' q=>⟨QbA,pl0,9,q.1,⟨.inr (.inl ⟨c,hc,rfl,rfl,hk,rfl,rfl,rfl⟩)⟩,q.2⟩)
 ·refine (Qju m s kind h k (fun d hd e=>q ⟨d,hd,e⟩) h1 h4).mono (fun e w' q2=>⟨QaR kind,pl0,0,q2.1,⟨.inr (.inr ⟨q,rfl,rfl,rfl⟩)⟩,q2.2⟩)
theorem QhL {A B:List Ce} {c:Ce}:(c :: (A ++ B)).Perm (A ++ c :: B):=List.perm_middle.symm
theorem Qpi {D:DataW Value} {M:List Ce} {kind:Int} {g:Ag} {p:Pl} {c':Ce} (hH:HoldsC D M) (t:Tidy D) (hA:AscC M) (k:QbI c'.n c'.s) (af:AfA M c'.n c'.s kind g p 0):HoldsC (D.put (kL c'.n c'.s) (QeG c')) (M.filter (loF c'.n c'.s) ++ c' :: M.filter (hiF c'.n c'.s)):=by
 rcases af.a with ⟨c,hc,e1,e2,_⟩ | ⟨c,hc,_,_,_,_,_,e⟩ | ⟨hn,_⟩
 ·have sp:=QcL hA hc
  rw [e1,e2] at sp
  have hp:M.Perm (c :: (M.filter (loF c'.n c'.s) ++ M.filter (hiF c'.n c'.s))):=by
   conv=>lhs;rw [sp]
   exact List.perm_middle
  exact ((hH.perm hp).put_old t (c:=c') ⟨e1,e2⟩).perm QhL
 ·cases e
 ·exact (((hH.perm (QeO hn)).put_new t (c:=c') k (fun d hd e=>hn ⟨d,(QeO hn).mem_iff.2 hd,e⟩))).perm QhL
theorem Qpt {w w':World} {B:Nat} {M:List Ce} {c':Ce} (h:CesO w B M) (hb:Below w.heap.size w w') (hB:B<=w.heap.size) (ho:AgO w' w.heap.size c'.g c'.p):CesO w' B (M.filter (loF c'.n c'.s) ++ c' :: M.filter (hiF c'.n c'.s)):=by
 have h1:=h.add hb hB ho;have s:(M.filter (loF c'.n c'.s) ++ M.filter (hiF c'.n c'.s)).Sublist M∨True:=.inr trivial;refine CesO.perm (L:=c' :: (M.filter (loF c'.n c'.s) ++ M.filter (hiF c'.n c'.s))) ?_ QhL;have hd:∀ x,loF c'.n c'.s x=true->hiF c'.n c'.s x=false:=fun x q=>Qd8 q;refine ⟨fun d hd'=>?_,List.pairwise_cons.2 ⟨fun d hd'=>?_,?_⟩⟩
 ·rcases List.mem_cons.1 hd' with rfl | q
  ·exact h1.o _ (by simp)
  ·refine h1.o d (ZZm _ ?_)
   rcases List.mem_append.1 q with q | q
   ·exact (List.mem_filter.1 q).1
   ·exact (List.mem_filter.1 q).1
 ·refine (List.pairwise_cons.1 h1.ap).1 d ?_
  rcases List.mem_append.1 hd' with q | q
  ·exact (List.mem_filter.1 q).1
  ·exact (List.mem_filter.1 q).1
 ·have ap:=(List.pairwise_cons.1 h1.ap).2
  refine List.pairwise_append.2 ⟨ap.filter _,ap.filter _,fun a ha b hb'=>?_⟩;obtain ⟨a1,a2⟩:=List.mem_filter.1 ha;obtain ⟨b1,b2⟩:=List.mem_filter.1 hb';obtain ⟨i,hi,rfl⟩:=List.getElem_of_mem a1;obtain ⟨j,hj,rfl⟩:=List.getElem_of_mem b1;have hne:i≠j:=fun e=>by subst e;rw [hd _ a2] at b2;cases b2
  rcases Nat.lt_or_gt_of_ne hne with q | q
  ·exact (List.pairwise_iff_getElem.1 ap) i j hi hj q
  ·exact ((List.pairwise_iff_getElem.1 ap) j i hj hi q).symm
theorem QpL {M:List Ce} {m:Int} {s:ByteArray} {kind:Int} {g:Ag} {p:Pl} {c':Ce} (hA:AscC M) (e1:c'.n=m) (e2:c'.s=s) (af:AfA M m s kind g p 0):(Qfc M m s/\(M.filter (loF m s) ++ c' :: M.filter (hiF m s)).length=M.length)∨(¬ Qfc M m s/\(M.filter (loF m s) ++ c' :: M.filter (hiF m s)).length=M.length+1):=by
 rcases af.a with ⟨c,hc,k1,k2,_⟩ | ⟨c,hc,_,_,_,_,_,e⟩ | ⟨hn,_⟩
 ·refine .inl ⟨⟨c,hc,k1,k2⟩,?_⟩
  have sp:=congrArg List.length (QcL hA hc);rw [k1,k2] at sp;simp only [List.length_append,List.length_cons] at sp ⊢;omega
 ·cases e
 ·refine .inr ⟨hn,?_⟩
  have:=(QeO hn).length_eq;simp only [List.length_append,List.length_cons] at this ⊢;omega
theorem QjV {L M:List Ce} {m:Int} {s:ByteArray} (k:M.map Ce.key=L.map Ce.key):Qfc M m s↔Qfc L m s:=by
 constructor
 ·rintro ⟨c,hc,e1,e2⟩
  obtain ⟨d,hd,q1,q2,_⟩:=Qce k hc;exact ⟨d,hd,q1.trans e1,q2.trans e2⟩
 ·rintro ⟨c,hc,e1,e2⟩
  obtain ⟨d,hd,q1,q2,_⟩:=Qce k.symm hc;exact ⟨d,hd,q1.trans e1,q2.trans e2⟩
theorem QpQ {nm:ByteArray} {L M:List Ce} {win:Int} {x:Sx} {g o:Ag} {p q:Pl} (h:shB nm L=true/\x.B=true/\QdO win=true) (k:M.map Ce.key=L.map Ce.key) (af:AfA M win x.se x.k g p 0) (hp:AgPut g x o) (hl:¬ Qfc M win x.se->L.length<60):PtA nm L win x nm (M.filter (loF win x.se) ++ ⟨win,x.se,o,q⟩ :: M.filter (hiF win x.se)) 0:=by
 have hR:PtL L win x.se o (M.filter (loF win x.se) ++ ⟨win,x.se,o,q⟩ :: M.filter (hiF win x.se)):=PtL.key (by unfold PtL;rw [List.map_append,List.map_cons];rfl) k;rcases af.a with ⟨c,hc,e1,e2,e3,rfl,rfl,_⟩ | ⟨c,hc,_,_,_,_,_,e⟩ | ⟨hn,rfl,rfl,_⟩
 ·obtain ⟨d,hd,q1,q2,q3⟩:=Qce k hc
  exact .there d o _ h hd (q1.trans e1) (q2.trans e2) (by rw [q3];exact e3) (by rw [q3];exact hp) hR
 ·cases e
 ·exact .new o _ h (fun q=>hn ((QjV k).2 q)) (hl hn) hp hR
theorem af_ag {w:World} {B:Nat} {M:List Ce} {m:Int} {s:ByteArray} {kind:Int} {g:Ag} {p:Pl} {code:Int} (af:AfA M m s kind g p code) (h1:1<=kind) (h4:kind<=4) (hO:CesO w B M) (ok:∀ c∈M,AgOk c.g) (sm:∀ c∈M,AgSm c.g) (z:code=0):AgOk g/\AgSm g/\AgO w B g p:=by
 rcases af.a with ⟨c,hc,e1,e2,e3,rfl,rfl,_⟩ | ⟨c,hc,_,_,_,_,_,e⟩ | ⟨hn,rfl,rfl,_⟩
 ·exact ⟨ok c hc,sm c hc,hO.o c hc⟩
 ·rw [z] at e;cases e
 ·have e:QaR kind=⟨kind,0,0,0,0,if kind=2 then -1 else 0,0,[],[],0,0,[],[]⟩:=by unfold QaR;rw [if_pos ⟨h1,h4⟩]
  have zi:I64 0:=by unfold I64;omega
  have zu:U64 0:=by unfold U64;omega
  rw [e];exact ⟨⟨by show I64 kind;unfold I64;omega,zu,zi,zu,zi,by show I64 (if kind=2 then -1 else 0);split <;> (unfold I64;omega),zu,zi,zu,(fun b hb=>by cases hb),(fun b hb=>by cases hb),(fun b hb=>by cases hb),(fun b hb=>by cases hb)⟩,⟨Nat.zero_le _,Nat.zero_le _,Nat.zero_le _,Nat.zero_le _⟩,AgO.nil _ _ rfl rfl rfl rfl⟩
theorem AgO.plgP {w:World} {B:Nat} {g:Ag} {p:Pl} (h:AgO w B g p):PlG g p:=by
 have fb:∀ {ao:Option Addr} {n c:Nat} {L:List Bn},OwnB w B (.slice ao n c) n L->ao=none->c=0:=fun {ao n c L} o e=>by
  rcases o.2 with ⟨q,_⟩ | ⟨b,off,c',cur,q,_⟩
  ·cases q;rfl
  ·cases q;cases e
 have fn:∀ {kd:IntKind} {T:TypeId} {ao:Option Addr} {n c:Nat} {L:List Int},OwnN kd T w B (.slice ao n c) n L->(ao=none->c=0)/\Qlz ao/\n<=c/\c<=maxLen:=fun {kd T ao n c L} o=>by
  rcases o.2.2 with ⟨q,q0⟩ | ⟨b,c',cur,q,_,_,q1,q2,_⟩
  ·cases q;exact ⟨fun _=>rfl,.inl rfl,ZZa _,ZZj _⟩
  ·cases q;exact ⟨(fun e=>by cases e),.inr ⟨_,_,rfl⟩,q1,q2⟩
 exact ⟨fb h.P,fb h.N,(fn h.E).1,(fn h.R).1,(fn h.E).2.1,(fn h.R).2.1,(fn h.E).2.2.1,(fn h.E).2.2.2⟩
def CeQ1 (M:List Ce):Prop:=(∀ c∈M,AgOk c.g)/\∀ c∈M,AgSm c.g
theorem CeQ1.of {w:World} {ao:Option Addr} {N:Nat} {L M:List Ce} (h:ShI w ao N L) (k:M.map Ce.key=L.map Ce.key):CeQ1 M:=by
 refine ⟨fun c hc=>?_,fun c hc=>?_⟩
 ·obtain ⟨d,hd,_,_,e⟩:=Qce k hc
  rw [<- e];exact h.ok d hd
 ·obtain ⟨d,hd,_,_,e⟩:=Qce k hc
  rw [<- e];exact h.sm d hd
def PtP (w:World) (nm:ByteArray) (L:List Ce) (win:Int) (x:Sx) (e:Ending) (w':World):Prop:=∃ v nm' R code,e=.returned v/\PtA nm L win x nm' R code/\ShO w' w.heap.size v nm' R [] code/\Below w.heap.size w w'
theorem Qpy (w:World) (a b c:Array Value) (T U V:TypeId):Hid (Below w.heap.size w (((w.alloc (.cells a T)).alloc (.cells b U)).alloc (.cells c V)))/\Hid ((((w.alloc (.cells a T)).alloc (.cells b U)).alloc (.cells c V)).heap[w.heap.size]?=some (.cells a T (0,0)))/\Hid ((((w.alloc (.cells a T)).alloc (.cells b U)).alloc (.cells c V)).heap[w.heap.size+1]?=some (.cells b U (0,0)))/\Hid ((((w.alloc (.cells a T)).alloc (.cells b U)).alloc (.cells c V)).heap[w.heap.size+1+1]?=some (.cells c V (0,0)))/\Hid ((((w.alloc (.cells a T)).alloc (.cells b U)).alloc (.cells c V)).heap.size=w.heap.size+3):=by
 have a1:∀ (X:World) o,Below X.heap.size X (X.alloc o):=fun X o=>(ZZb _ _).alloc (ZZa _) _;have k0:=ZZk w (.cells a T);have k1:=ZZk (w.alloc (.cells a T)) (.cells b U);have k2:=ZZk ((w.alloc (.cells a T)).alloc (.cells b U)) (.cells c V);simp only [World.size_alloc] at k1 k2;exact ⟨Qaa (Qad (Qad (a1 _ _) (a1 _ _)) (a1 _ _)),Qaa (((Qad (a1 _ _) (a1 _ _)).block _ (by simp)).trans k0),Qaa (((a1 _ _).block _ (by simp)).trans k1),Qaa k2,Qaa (by simp)⟩
theorem Qak {w w':World} {r:Nat} {b:Obj} (h:w.heap[r]?=some b) (hb:Below w.heap.size w w'):w'.heap[r]?=some b:=(hb.block _ (ZZc.1 h).1).trans h
theorem QfS {w:World} {r:Nat} {x:Sx} (h:w.heap[r]?=some (.cells (Qax x) 28 (0,0))):w.cell? ⟨r,0,none⟩=some (.int .i64 x.k)/\w.cell? ⟨r,1,none⟩=some (.string x.se)/\w.cell? ⟨r,2,none⟩=some (.int .i64 x.v)/\w.cell? ⟨r,3,none⟩=some (.string x.wd)/\w.cell? ⟨r,4,none⟩=some (.int .u64 x.wt)/\w.cell? ⟨r,5,none⟩=some (.bool x.tm)/\w.cell? ⟨r,6,none⟩=some (.int .i64 x.ti):=⟨Qaq h 0 rfl,Qaq h 1 rfl,Qaq h 2 rfl,Qaq h 3 rfl,Qaq h 4 rfl,Qaq h 5 rfl,Qaq h 6 rfl⟩
set_option maxHeartbeats 8000000 in
theorem Qi0 {w:World} {ao:Option Addr} {N ca:Nat} {L:List Ce} (nm:ByteArray) (win:Int) (x:Sx) (hs:nm.size<=maxLen) (ox:x.Ok) (hm:MX w) (hI:ShI w ao N L) :
  Calls Tryz.prog 8 #[.agg #[.string nm,.slice ao N ca],.int .i64 win,.agg (Qax x)] w (PtP w nm L win x):=by
 obtain ⟨k0,k1,k2,k3,k4⟩:=Qpy w #[.string nm,.slice ao N ca] (Qax x) #[.string ⟨#[]⟩,.slice none 0 0,.slice none 0 0,.int .i64 0] 25 28 32;have II:=Qaa hI;have HM:=Qaa hm;have OX:=Qaa ox;have HBs:Hid (∀ W j u,Below w.heap.size w W->Below w.heap.size w (W.setCell ⟨w.heap.size+1+1,j,none⟩ u)):=fun W j u q=>q.setCell (by simp;omega) u;clear hI hm ox;have z0:=Qaq k1.out 0 rfl;have z1:=Qaq k1.out 1 rfl;go_enter Tryz.func8,Tryz.ntmps8;go_wp2_with fail;clear z0 z1;generalize ((w.alloc (.cells #[.string nm,.slice ao N ca] 25)).alloc (.cells (Qax x) 28)).alloc (.cells #[.string ⟨#[]⟩,.slice none 0 0,.slice none 0 0,.int .i64 0] 32)=W0 at k0 k1 k2 k3 k4 ⊢;refine (QcH nm hs II.out.hN II.out.lN II.out.ok II.out.sm II.out.ss (HM.out.past k0.out) (QaQ II.out.mem k0.out)).mono ?_;rintro e w1 ⟨rfl,hb1⟩;have HT1:=Qaa (Qad k0.out hb1);have X1:=Qaa (Qak k1.out hb1);have Y1:=Qaa (Qak k2.out hb1);have Z1:=Qaa (Qak k3.out hb1);have S1:Hid (w.heap.size+3<=w1.heap.size):=by show _<=_;have:=hb1.size;have:=k4.out;omega
 clear hb1 k0 k1 k2 k3 k4
 cases h1:shB nm L with
 | false=>
  have HA:Hid (PtA nm L win x ⟨#[]⟩ [] 1):=PtA.form (fun q=>by rw [h1] at q;cases q.1);clear h1;obtain ⟨f0,f1,f2,f3⟩:=fA4 Z1.out;obtain ⟨y0,y1,y2,y3⟩:=cA4 Z1.out;go_wp2;refine bodyPost_ret (v:=.agg #[.string ⟨#[]⟩,.slice none 0 0,.slice none 0 0,.int .i64 1]) (by simp [results,Tryz.results8,go_sem,y0,y1,y2,y3]) rfl ?_;refine show PtP _ _ _ _ _ _ _ from ⟨_,_,_,_,rfl,HA.out,ShO.none _ _ _,?_⟩
  repeat (refine HBs.out _ _ _ ?_)
  exact HT1.out
 | true=>
  obtain ⟨x0,x1,x2,x3,x4,x5,x6⟩:=QfS Y1.out;go_wp2_with fail;clear x0 x1 x2 x3 x4 x5 x6;refine (Qdx x.k x.se x.v x.wd x.wt x.tm x.ti (HM.out.past HT1.out) OX.out.se OX.out.wd).mono ?_;rintro e w2 ⟨rfl,hb2⟩;have HT2:=Qaa (Qad HT1.out hb2);have X2:=Qaa (Qak X1.out hb2);have Y2:=Qaa (Qak Y1.out hb2);have Z2:=Qaa (Qak Z1.out hb2);have S2:Hid (w.heap.size+3<=w2.heap.size):=by show _<=_;have:=hb2.size;have:=S1.out;omega
  clear hb2 X1 Y1 Z1 HT1 S1
  cases h2:Qbm x.k x.se x.v x.wd x.wt x.tm x.ti with
  | false=>
   have HA:Hid (PtA nm L win x ⟨#[]⟩ [] 1):=PtA.form (fun q=>by have:=q.2.1;unfold Sx.B at this;rw [h2] at this;cases this);clear h1 h2;obtain ⟨f0,f1,f2,f3⟩:=fA4 Z2.out;obtain ⟨y0,y1,y2,y3⟩:=cA4 Z2.out;go_wp2;refine bodyPost_ret (v:=.agg #[.string ⟨#[]⟩,.slice none 0 0,.slice none 0 0,.int .i64 1]) (by simp [results,Tryz.results8,go_sem,y0,y1,y2,y3]) rfl ?_;refine show PtP _ _ _ _ _ _ _ from ⟨_,_,_,_,rfl,HA.out,ShO.none _ _ _,?_⟩
   repeat (refine HBs.out _ _ _ ?_)
   exact HT2.out
  | true=>
   go_wp2_with fail;refine (QcY win _).mono ?_;rintro e wz ⟨rfl,hwz⟩;obtain rfl:=hwz.symm
   cases h3:QdO win with
   | false=>
    have HA:Hid (PtA nm L win x ⟨#[]⟩ [] 1):=PtA.form (fun q=>by rw [h3] at q;cases q.2.2);clear h1 h2 h3;obtain ⟨f0,f1,f2,f3⟩:=fA4 Z2.out;obtain ⟨y0,y1,y2,y3⟩:=cA4 Z2.out;go_wp2;refine bodyPost_ret (v:=.agg #[.string ⟨#[]⟩,.slice none 0 0,.slice none 0 0,.int .i64 1]) (by simp [results,Tryz.results8,go_sem,y0,y1,y2,y3]) rfl ?_;refine show PtP _ _ _ _ _ _ _ from ⟨_,_,_,_,rfl,HA.out,ShO.none _ _ _,?_⟩
    repeat (refine HBs.out _ _ _ ?_)
    exact HT2.out
   | true=>
    have HH:Hid (shB nm L=true/\x.B=true/\QdO win=true):=⟨h1,h2,h3⟩;have KW:Hid (QbI win x.se):=⟨QjO h3,OX.out.se⟩;have RK:=Qaa (Qe2 II.out (QcJ h1));have RA:=Qaa (csR_iff.1 (QcJ h1)).2.2;have RL:=Qaa (csR_iff.1 (QcJ h1)).1;obtain ⟨hk1,hk4⟩:=(Qbi HH.out.2.1).1;have z1:=Qaq X2.out 1 rfl;clear h1 h2 h3;go_wp2_with fail;clear z1;refine (Qdj II.out.hN II.out.lN RA.out.ap RK.out II.out.sm II.out.pl (QaQ II.out.mem HT2.out)).mono ?_;rintro e w3 ⟨M,rfl,hMp,hky,hO,hb3⟩;have KY:=Qaa hky;have AM:=Qaa (QeT hky RA.out);have LM:=Qaa (Qdd hky);have hb3':=Qad hb3 ((ZZb w3.heap.size w3).alloc (ZZa _) (.cells #[.int .i64 win,.string x.se] 85));have HMp:=Qaa (hMp.past ((ZZb w3.heap.size w3).alloc (ZZa _) (.cells #[.int .i64 win,.string x.se] 85)));have HO:=Qaa (hO.past ((ZZb w3.heap.size w3).alloc (ZZa _) (.cells #[.int .i64 win,.string x.se] 85)));have HT3:=Qaa (Qad HT2.out hb3');have X3:=Qaa (Qak X2.out hb3');have Y3:=Qaa (Qak Y2.out hb3');have Z3:=Qaa (Qak Z2.out hb3');have K3:=Qaa (ZZk w3 (.cells #[.int .i64 win,.string x.se] 85));have S3:Hid (w2.heap.size<w3.heap.size):=hMp.lt;have hsz3:w.heap.size+3<=w3.heap.size:=by have:=S3.out;have:=S2.out;omega
    obtain ⟨x0,x1,x2,x3,x4,x5,x6⟩:=QfS (Qak Y2.out hb3);clear hMp hky hO hb3 hb3' RK RA;go_upto_region 5 with fail;clear x0 x1 x2 x3 x4 x5 x6;generalize w3.alloc (.cells #[.int .i64 win,.string x.se] 85)=W3 at HMp HO HT3 X3 Y3 Z3 K3 ⊢;generalize w3.heap.size=rk at K3 S3 hsz3 ⊢;have x0:=Qac Y3.out 0 rfl;have q0:=Qac K3.out 0 rfl;have q1:=Qac K3.out 1 rfl;go_wp2_with fail;clear x0 q0 q1;refine (Qk5 win x.se x.k HMp.out KW.out hk1 hk4).mono ?_;rintro e w4 ⟨g,p,code,rfl,haf,hb4⟩;have AF:=Qaa haf;have HMp4:=Qaa (HMp.out.past hb4);have HO4:=Qaa (HO.out.past hb4);have HT4:=Qaa (Qad HT3.out hb4);have X4:=Qaa (Qak X3.out hb4);have Y4:=Qaa (Qak Y3.out hb4);have Z4:=Qaa (Qak Z3.out hb4);have K4:=Qaa (Qak K3.out hb4);have S4:=Qaa hb4.size;clear haf hb4 HMp HO HT3 X3 Y3 Z3 K3;by_cases hcode:code=0
    ·have bc:(code != 0)=false:=by simp [hcode]
     have HC0:=Qaa hcode;have a5:Below w4.heap.size w4 (w4.alloc (.cells (Qal g p) 49)):=(ZZb _ _).alloc (ZZa _) _;have HMp5:=Qaa (HMp4.out.past a5);have HO5:=Qaa (HO4.out.past a5);have HT5:=Qaa (Qad HT4.out a5);have X5:=Qaa (Qak X4.out a5);have Y5:=Qaa (Qak Y4.out a5);have Z5:=Qaa (Qak Z4.out a5);have K5:=Qaa (Qak K4.out a5);have G5:=Qaa (ZZk w4 (.cells (Qal g p) 49));clear a5 hcode HMp4 HO4 HT4 X4 Y4 Z4 K4;go_upto_region 8 with fail;generalize w4.alloc (.cells (Qal g p) 49)=W5 at HMp5 HO5 HT5 X5 Y5 Z5 K5 G5 ⊢;generalize w4.heap.size=rg at G5 S4 ⊢;have Qm:Hid (CeQ1 M):=CeQ1.of II.out KY.out;obtain ⟨gok,gsm,gao⟩:=af_ag AF.out hk1 hk4 HO5.out Qm.out.1 Qm.out.2 HC0.out;have GK:=Qaa gok;have GS:=Qaa gsm;have GO:=Qaa gao;clear gok gsm gao
     go_cut [7] (fun v w'=>v=.map (some w2.heap.size)/\∃ (og:Ag) (q:Pl),Hid (AgPut g x og)/\Hid (MpC w' w2.heap.size (N+1) (M.filter (loF win x.se) ++ ⟨win,x.se,og,q⟩ :: M.filter (hiF win x.se)))/\Hid (CesO w' (w2.heap.size+1) (M.filter (loF win x.se) ++ ⟨win,x.se,og,q⟩ :: M.filter (hiF win x.se)))/\Hid (W5.grownBy w' (some w2.heap.size)))
     case first=>
      have HS0:(fun W=>Below W5.heap.size W5 W) W5.drew:=(ZZb _ _).drew;refine Qaj (fun W=>Below W5.heap.size W5 W) 5 (by kernel_rfl) ?_;refine tkS (i:=0) (v:=.map (some w2.heap.size)) rfl rfl HS0 ?_;refine tkL (i:=1) (v:=.agg #[.int .i64 win,.string x.se]) rfl rfl HS0 (fun W hW=>?_) ?_
      ·have q0:=Qab hW (Qaq K5.out 0 rfl)
       have q1:=Qab hW (Qaq K5.out 1 rfl);clear hW;go_simp
      refine tkL (i:=2) (v:=.agg (Qal g p)) rfl rfl HS0 (fun W hW=>?_) ?_
      ·have GG:=Qak G5.out hW
       obtain ⟨q0,q1,q2,q3,q4,q5,q6,q7,q8,q9,q10,q11,q12⟩:=Qby GG;clear GG;clear hW;go_simp
      simp only [sA,sB,sC];refine tkL (i:=3) (v:=.agg (Qax x)) rfl rfl HS0 (fun W hW=>?_) ?_
      ·obtain ⟨x0,x1,x2,x3,x4,x5,x6⟩:=QfS (Qak Y5.out hW)
       clear hW;go_simp
      simp only [sA,sB,sC];refine onE (i:=4) rfl (fun K hK=>?_);go_simp;refine (QlE x GK.out OX.out GS.out GO.out.plgP ((HM.out.past HT5.out).past (HS0:Below W5.heap.size W5 W5.drew)) (Qan GO.out.at (HS0:Below W5.heap.size W5 W5.drew))).mono ?_;rintro e w6 ⟨v,og,rfl,hpt,⟨q,rfl,ho⟩,hb6⟩;have HB6:Hid (Below W5.heap.size W5 w6):=(HS0:Below W5.heap.size W5 W5.drew).trans (hb6.mono (ZZa _));have HPT:=Qaa hpt;have HOG:Hid (AgO w6 W5.heap.size og q):=ho;clear hpt ho hb6;dsimp only;refine hK.out _ _ (fun _=>HB6.out) ?_;clear hK K
      try simp only [Act.put,sA,sB,sC]
      obtain ⟨D,hD,hH⟩:=HMp5.out.past HB6.out;obtain ⟨W7,hrun,hD7,hg7⟩:=hD.update (val:=.agg (Qal og q)) (d:=QeG ⟨win,x.se,og,q⟩) (ps:=[]) keyC Tryz.underlying82 (by have:=II.out.lN;unfold maxLen;omega) (Qbd KW.out) rfl;have AF0:AfA M win x.se x.k g p 0:=HC0.out ▸ AF.out;have HF:=Qaa (And.intro (show MpC W7 w2.heap.size (N+1) (M.filter (loF win x.se) ++ ⟨win,x.se,og,q⟩ :: M.filter (hiF win x.se)) from ⟨_,hD7,Qpi (c':=⟨win,x.se,og,q⟩) hH (hD.tidy keyC) AM.out KW.out AF0⟩) (And.intro ((Qpt (c':=⟨win,x.se,og,q⟩) HO5.out HB6.out (Nat.succ_le_of_lt HMp5.out.lt) HOG.out).grown hg7 (Nat.lt_succ_self _)) (show W5.grownBy W7 (some w2.heap.size) from (World.grownBy.but ⟨HB6.out.os,HB6.out.tape,HB6.out.output,HB6.out.size,fun i hi _=>HB6.out.block i hi⟩ _).andThen hg7 (fun j hj=>.inr hj))));clear hD hH hD7 hg7 AF0;refine onE (i:=5) rfl (fun K hK=>?_);go_simp;refine hK.out _ _ (fun h=>absurd rfl h) ?_;clear hK K
      try simp only [Act.put,sA,sB,sC]
      refine Qar (by kernel_rfl) ?_ _;go_wp2;go_meet;exact ⟨rfl,og,q,HPT,Qaa HF.out.1,Qaa HF.out.2.1,Qaa HF.out.2.2⟩
     case rest=>
     obtain ⟨rfl,og,q,HPT,HMp7,HO7,HG7⟩:=hcut;obtain ⟨W7,hW7⟩:∃ X,wc=X:=⟨_,rfl⟩;rw [hW7] at HMp7 HO7 HG7 ⊢;clear hW7;have AF0:AfA M win x.se x.k g p 0:=HC0.out ▸ AF.out;have hz:=HMp5.out.lt;have s2:=S2.out;have HT7:Hid (Below w.heap.size w W7):=HT5.out.grown HG7.out HT5.out.size (fun j hj=>by cases hj;omega);have X7:=Qaa ((HG7.out.block _ (Array.getElem?_eq_some_iff.1 X5.out).1 (by simp;omega)).trans X5.out);have Z7:=Qaa ((HG7.out.block _ (Array.getElem?_eq_some_iff.1 Z5.out).1 (by simp;omega)).trans Z5.out);have HZ7:Hid (w.heap.size+3<=W7.heap.size):=by show _<=_;have:=HG7.out.size;omega
     have PL:=Qaa (QpL (c':=⟨win,x.se,og,q⟩) AM.out rfl rfl AF0);have AF1:=Qaa AF0;have hNN:L.length=N:=II.out.hN;have HNN:=Qaa hNN;have hML:M.length=N:=LM.out.trans hNN;have HML:=Qaa hML;have hRL:N<=60:=by rw [<- hNN];exact RL.out
     have AS7:=Qaa (Qjr (c:=⟨win,x.se,og,q⟩) AM.out);generalize hR7:M.filter (loF win x.se) ++ ⟨win,x.se,og,q⟩ :: M.filter (hiF win x.se)=R7 at HMp7 HO7 PL AS7;have HR7:=Qaa hR7;obtain ⟨D,hD,hDs⟩:=HMp7.out.len;have HD:=Qaa hD;have HDs:=Qaa hDs;clear AF0 hz s2 hNN hML hR7 hD hDs HMp5 HO5 HT5 X5 Y5 Z5 K5 G5 GO GK GS;by_cases hfull:60<R7.length
     ·have HA:Hid (PtA nm L win x ⟨#[]⟩ [] 8):=by
       rcases PL.out with ⟨_,e⟩ | ⟨hn,e⟩
       ·have:=HML.out;omega
       ·exact PtA.full HH.out (fun q=>hn ((QjV KY.out).2 q)) (by have:=HML.out;have:=HNN.out;omega)
      have hs60:(60:Int)<((Maps.size D:Nat):Int):=by rw [HDs.out];omega
      clear hfull;obtain ⟨f0,f1,f2,f3⟩:=fA4 Z7.out;obtain ⟨y0,y1,y2,y3⟩:=cA4 Z7.out;go_wp2_with (at_len;refine wpList_len_own _ rfl _ 82 rfl 85 49 Tryz.underlying82 _ w2.heap.size (N+1) _ rfl HD.out ?_);refine bodyPost_ret (v:=.agg #[.string ⟨#[]⟩,.slice none 0 0,.slice none 0 0,.int .i64 8]) (by simp [results,Tryz.results8,go_sem,y0,y1,y2,y3]) rfl ?_;refine show PtP _ _ _ _ _ _ _ from ⟨_,_,_,_,rfl,HA.out,ShO.none _ _ _,?_⟩
      repeat (refine HBs.out _ _ _ ?_)
      exact HT7.out
     ·have HA:Hid (PtA nm L win x nm R7 0):=by
       rw [<- HR7.out];refine QpQ HH.out KY.out AF1.out HPT.out (fun hn=>?_);rcases PL.out with ⟨q,_⟩ | ⟨_,e⟩
       ·exact absurd q hn
       ·have:=HML.out;have:=HNN.out;omega
      have hs60:¬ (60:Int)<((Maps.size D:Nat):Int):=by rw [HDs.out];omega
      have hRl:R7.length<=1048576:=by omega
      have HRl:=Qaa hRl;clear hfull hRl;go_upto_region 11 with (at_len;refine wpList_len_own _ rfl _ 82 rfl 85 49 Tryz.underlying82 _ w2.heap.size (N+1) _ rfl HD.out ?_);have HS0:(fun W=>Below W7.heap.size W7 W) W7.drew:=(ZZb _ _).drew;refine Qaj (fun W=>Below W7.heap.size W7 W) 6 (by kernel_rfl) ?_;refine tkS (i:=0) (v:=.pointer (some ⟨w.heap.size,0,none⟩)) rfl rfl HS0 ?_;refine tkL (i:=1) (v:=.string nm) rfl rfl HS0 (fun W hW=>?_) ?_
      ·have x0:=Qab hW (Qaq X7.out 0 rfl)
       clear hW;go_simp
      refine tkS (i:=2) (v:=.map (some w2.heap.size)) rfl rfl HS0 ?_;simp only [sA,sB,sC];refine onE (i:=3) rfl (fun K hK=>?_);go_simp;refine (Qj4 (HMp7.out.past (HS0:Below W7.heap.size W7 W7.drew)) (HR7.out ▸ AS7.out) HRl.out).mono ?_;rintro e w8 ⟨vr,rfl,hr,hb8⟩;have HB8:Hid (Below W7.heap.size W7 w8):=(HS0:Below W7.heap.size W7 W7.drew).trans (hb8.mono (ZZa _));have HR8:=Qaa hr;clear hr hb8;dsimp only;refine hK.out _ _ (fun _=>HB8.out) ?_;clear hK K
      try simp only [Act.put,sA,sB,sC]
      obtain ⟨ar,cr,rfl,_⟩:=HR8.out.form;refine tkS (i:=4) (v:=.agg #[.string nm,.slice ar R7.length cr]) rfl rfl HB8.out ?_;refine tkS (i:=5) (v:=.agg #[.string nm,.slice ar R7.length cr,.slice none 0 0,.int .i64 0]) rfl rfl HB8.out ?_;simp only [sA,sB,sC];have Z8:=Qaa (Qak Z7.out HB8.out);obtain ⟨f0,f1,f2,f3⟩:=fA4 Z8.out;obtain ⟨y0,y1,y2,y3⟩:=cA4 Z8.out;refine onE (i:=6) rfl (fun K hK=>?_);go_simp;refine hK.out _ _ (fun h=>absurd rfl h) ?_;clear hK K
      try simp only [Act.put,sA,sB,sC]
      refine Qar (by kernel_rfl) ?_ _;go_wp2;have hlt:w.heap.size+1+1<W7.heap.size:=by have:=HZ7.out;omega
      have hlt2:w.heap.size+1+1<w2.heap.size+1:=by have:=S2.out;omega
      refine bodyPost_ret (v:=.agg #[.string nm,.slice ar R7.length cr,.slice none 0 0,.int .i64 0]) (by simp [results,Tryz.results8,go_sem,y0,y1,y2,y3]) rfl ?_;refine show PtP _ _ _ _ _ _ _ from ⟨_,_,_,_,rfl,HA.out,⟨⟨_,_,rfl,?_,OwnC.nil _ _,fun k _ q=>by cases q⟩,?_⟩,?_⟩
      ·refine OwnC.le ?_ (show w.heap.size<=W7.heap.size by omega)
       repeat (refine OwnC.setNe ?_ hlt _)
       exact HR8.out
      ·rw [List.append_nil]
       refine CesO.le ?_ (show w.heap.size<=w2.heap.size+1 by omega)
       repeat (refine CesO.setNe ?_ hlt2 _)
       exact HO7.out.past HB8.out
      ·repeat (refine HBs.out _ _ _ ?_)
       exact Qad HT7.out HB8.out
    ·have HA:Hid (PtA nm L win x ⟨#[]⟩ [] code):=by
      rcases AF.out.a with ⟨_,_,_,_,_,_,_,e⟩ | ⟨c,hc,e1,e2,e3,_,_,rfl⟩ | ⟨_,_,_,e⟩
      ·exact absurd e hcode
      ·obtain ⟨d,hd,q1,q2,q3⟩:=Qce KY.out hc
       exact PtA.kind d HH.out hd (q1.trans e1) (q2.trans e2) (by rw [q3];exact e3)
      ·exact absurd e hcode
     have bc:(code != 0)=true:=by simp [hcode]
     have a5:Below w4.heap.size w4 (w4.alloc (.cells (Qal g p) 49)):=(ZZb _ _).alloc (ZZa _) _;have HT5:=Qaa (Qad HT4.out a5);have Z5:=Qaa (Qak Z4.out a5);clear a5 hcode;go_upto_region 6 with fail;generalize w4.alloc (.cells (Qal g p) 49)=W5 at HT5 Z5 ⊢;obtain ⟨f0,f1,f2,f3⟩:=fA4 Z5.out;obtain ⟨y0,y1,y2,y3⟩:=cA4 Z5.out;go_wp2;refine bodyPost_ret (v:=.agg #[.string ⟨#[]⟩,.slice none 0 0,.slice none 0 0,.int .i64 code]) (by simp [results,Tryz.results8,go_sem,y0,y1,y2,y3]) rfl ?_;refine show PtP _ _ _ _ _ _ _ from ⟨_,_,_,_,rfl,HA.out,ShO.none _ _ _,?_⟩
     repeat (refine HBs.out _ _ _ ?_)
     exact HT5.out
end Go.Proofs.YthchmdmncmioiaaGreatDoor
