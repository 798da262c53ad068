/-
 Parts.
-/
import Derived.Test.YtandnmpllheniaaGreatDoorCCN
import Derived.Test.YtandnmpllheniaaGreatDoorCPB
set_option linter.all false
namespace Go.Proofs.YtandnmpllheniaaGreatDoor
open Go.ChangeShapes Go.WideShapes Go.ChangeAt Go.RowKit Go.PlainAid Go.Lib Go.Maps
set_option maxRecDepth 10000
def kC (n:Int) (s:ByteArray):Ce:=⟨n,s,QbQ,⟨none,0,none,0,none,0,none,0⟩⟩
def loF (n:Int) (s:ByteArray) (c:Ce):Bool:=cAh c (kC n s)
def hiF (n:Int) (s:ByteArray) (c:Ce):Bool:=cAh (kC n s) c
def Qds (L:List Ce) (n:Int) (s:ByteArray):Prop:=∃ c∈L,c.n=n/\c.s=s
theorem Qgp {a b c:Ce} (h:Qa9 a b):cAh a c=cAh b c:=by unfold cAh;rw [h.1,h.2]
theorem Qc0 {a b c:Ce} (h:Qa9 a b):cAh c a=cAh c b:=by unfold cAh;rw [h.1,h.2]
theorem QfO {L:List Ce} {n:Int} {s:ByteArray} (h:¬ Qds L n s):L.Perm (L.filter (loF n s) ++ L.filter (hiF n s)):=by
 have e:L.filter (fun c=>!loF n s c)=L.filter (hiF n s):=List.filter_congr (fun c hc=>by
  cases q:loF n s c
  ·cases q2:hiF n s c
   ·exact absurd (Qid q q2) (fun e=>h ⟨c,hc,e⟩)
   ·rfl
  ·rw [show hiF n s c=false from QeM q];rfl)
 have p:=List.filter_append_perm (loF n s) L;rw [e] at p;exact p.symm
theorem Qc1 {L:List Ce} {c:Ce} (hL:AscC L) (hc:c∈L):L=L.filter (loF c.n c.s) ++ c :: L.filter (hiF c.n c.s):=by
 obtain ⟨A,B,rfl⟩:=List.append_of_mem hc;obtain ⟨a1,a2,a3⟩:=List.pairwise_append.1 hL;obtain ⟨b1,b2⟩:=List.pairwise_cons.1 a2;have k:Qa9 (kC c.n c.s) c:=⟨rfl,rfl⟩;have e1:A.filter (loF c.n c.s)=A:=List.filter_eq_self.2 (fun x hx=>by unfold loF;rw [Qc0 k];exact a3 x hx c (by simp));have e2:A.filter (hiF c.n c.s)=[]:=List.filter_eq_nil_iff.2 (fun x hx=>by unfold hiF;rw [Qgp k,QeM (a3 x hx c (by simp))];simp);have e3:B.filter (loF c.n c.s)=[]:=List.filter_eq_nil_iff.2 (fun x hx=>by unfold loF;rw [Qc0 k,QeM (b1 x hx)];simp);have e4:B.filter (hiF c.n c.s)=B:=List.filter_eq_self.2 (fun x hx=>by unfold hiF;rw [Qgp k];exact b1 x hx);have f1:loF c.n c.s c=false:=by unfold loF;rw [Qc0 k,QeC]
 have f2:hiF c.n c.s c=false:=by unfold hiF;rw [Qgp k,QeC]
 rw [List.filter_append,List.filter_append,List.filter_cons,List.filter_cons,f1,f2,e1,e2,e3,e4];simp
theorem Qky {L:List Ce} {c:Ce} (hL:AscC L):AscC (L.filter (loF c.n c.s) ++ c :: L.filter (hiF c.n c.s)):=by
 have k:Qa9 (kC c.n c.s) c:=⟨rfl,rfl⟩
 have lo:∀ x∈L.filter (loF c.n c.s),cAh x c=true:=fun x hx=>by
  have:=(List.mem_filter.1 hx).2;unfold loF at this;rw [Qc0 k] at this;exact this
 have hi:∀ x∈L.filter (hiF c.n c.s),cAh c x=true:=fun x hx=>by
  have:=(List.mem_filter.1 hx).2;unfold hiF at this;rw [Qgp k] at this;exact this
 refine List.pairwise_append.2 ⟨hL.filter _,List.pairwise_cons.2 ⟨hi,hL.filter _⟩,fun a ha b hb=>?_⟩;rcases List.mem_cons.1 hb with rfl | hb
 ·exact lo a ha
 ·exact Qdz (lo a ha) (hi b hb)
def PtL (L:List Ce) (n:Int) (s:ByteArray) (o:Ag) (R:List Ce):Prop:=R.map Ce.key=(L.filter (loF n s)).map Ce.key ++ (n,s,o) :: (L.filter (hiF n s)).map Ce.key
theorem Qhh {n:Int} {s:ByteArray}:∀ {L M:List Ce},M.map Ce.key=L.map Ce.key->(M.filter (loF n s)).map Ce.key=(L.filter (loF n s)).map Ce.key/\(M.filter (hiF n s)).map Ce.key=(L.filter (hiF n s)).map Ce.key
 | [],[],_=>⟨rfl,rfl⟩
 | c :: L,d :: M,h=>by
  simp only [List.map_cons,List.cons.injEq] at h;obtain ⟨q1,q2⟩:=Qhh (n:=n) (s:=s) h.2;have e1:loF n s d=loF n s c:=QeK (c:=d) (d:=kC n s) (c':=c) (d':=kC n s) h.1 rfl;have e2:hiF n s d=hiF n s c:=QeK (c:=kC n s) (d:=d) (c':=kC n s) (d':=c) rfl h.1;simp only [List.filter_cons,e1,e2];constructor
  ·cases loF n s c <;> simp [q1,h.1]
  ·cases hiF n s c <;> simp [q2,h.1]
 | [],_ :: _,h=>by simp at h
 | _ :: _,[],h=>by simp at h
theorem PtL.key {L M R:List Ce} {n:Int} {s:ByteArray} {o:Ag} (h:PtL M n s o R) (k:M.map Ce.key=L.map Ce.key):PtL L n s o R:=by
 obtain ⟨q1,q2⟩:=Qhh (n:=n) (s:=s) k;unfold PtL at h ⊢;rw [<- q1,<- q2];exact h
inductive PtA (nm:ByteArray) (L:List Ce) (win:Int) (x:Sx):ByteArray->List Ce->Int->Prop
 | form (h:¬ (shB nm L=true/\x.B=true/\Qfq win=true)):PtA nm L win x ⟨#[]⟩ [] 1
 | kind (c:Ce) (h:shB nm L=true/\x.B=true/\Qfq win=true) (hc:c∈L) (k1:c.n=win) (k2:c.s=x.se) (hk:¬ c.g.k=x.k):PtA nm L win x ⟨#[]⟩ [] 9
 | there (c:Ce) (o:Ag) (R:List Ce) (h:shB nm L=true/\x.B=true/\Qfq win=true) (hc:c∈L) (k1:c.n=win) (k2:c.s=x.se) (hk:c.g.k=x.k) (hp:AgPut c.g x o) (hR:PtL L win x.se o R):PtA nm L win x nm R 0
 | full (h:shB nm L=true/\x.B=true/\Qfq win=true) (hn:¬ Qds L win x.se) (hl:60<=L.length):PtA nm L win x ⟨#[]⟩ [] 8
 | new (o:Ag) (R:List Ce) (h:shB nm L=true/\x.B=true/\Qfq win=true) (hn:¬ Qds L win x.se) (hl:L.length<60) (hp:AgPut (QaN x.k) x o) (hR:PtL L win x.se o R):PtA nm L win x nm R 0
theorem MpC.len {w:World} {b n:Nat} {L:List Ce} (h:MpC w b n L):∃ D:DataW Value,w.ownsMap Tryz.prog 85 rA b n D/\Maps.size D=L.length:=by
 obtain ⟨D,h1,h2⟩:=h;exact ⟨D,h1,h2.sz⟩
structure AfA (M:List Ce) (m:Int) (s:ByteArray) (kind:Int) (g:Ag) (p:Pl) (code:Int):Prop where
 a:(∃ c∈M,c.n=m/\c.s=s/\c.g.k=kind/\g=c.g/\p=c.p/\code=0)∨(∃ c∈M,c.n=m/\c.s=s/\¬ c.g.k=kind/\g=QbQ/\p=pl0/\code=9)∨(¬ Qds M m s/\g=QaN kind/\p=pl0/\code=0)
theorem Qle {w:World} {b n:Nat} {M:List Ce} (m:Int) (s:ByteArray) (kind:Int) (h:MpC w b n M) (k:QbR m s) (h1:1<=kind) (h4:kind<=4) :
  Calls Tryz.prog 42 #[.map (some b),Qmg m s,.int .i64 kind] w fun e w'=>∃ g p code,e=.returned (.tuple #[.agg (Qak g p),.int .i64 code])/\AfA M m s kind g p code/\Below w.heap.size w w':=by
 by_cases q:Qds M m s
 ·obtain ⟨c,hc,rfl,rfl⟩:=q
  by_cases hk:c.g.k=kind
  ·refine (Qjj kind h hc hk).mono (fun e w' q=>⟨c.g,c.p,0,q.1,⟨.inl ⟨c,hc,rfl,rfl,hk,rfl,rfl,rfl⟩⟩,q.2⟩)
  ·refine (Qjz kind h hc hk).mono (fun e w' q=>⟨QbQ,pl0,9,q.1,⟨.inr (.inl ⟨c,hc,rfl,rfl,hk,rfl,rfl,rfl⟩)⟩,q.2⟩)
 ·refine (Qkw m s kind h k (fun d hd e=>q ⟨d,hd,e⟩) h1 h4).mono (fun e w' q2=>⟨QaN kind,pl0,0,q2.1,⟨.inr (.inr ⟨q,rfl,rfl,rfl⟩)⟩,q2.2⟩)
theorem Qh5 {A B:List Ce} {c:Ce}:(c :: (A ++ B)).Perm (A ++ c :: B):=List.perm_middle.symm
theorem Qp3 {D:DataW Value} {M:List Ce} {kind:Int} {g:Ag} {p:Pl} {c':Ce} (hH:HoldsC D M) (t:Tidy D) (hA:AscC M) (k:QbR c'.n c'.s) (af:AfA M c'.n c'.s kind g p 0):HoldsC (D.put (kL c'.n c'.s) (Qga c')) (M.filter (loF c'.n c'.s) ++ c' :: M.filter (hiF c'.n c'.s)):=by
 rcases af.a with ⟨c,hc,e1,e2,_⟩ | ⟨c,hc,_,_,_,_,_,e⟩ | ⟨hn,_⟩
 ·have sp:=Qc1 hA hc
  rw [e1,e2] at sp
  have hp:M.Perm (c :: (M.filter (loF c'.n c'.s) ++ M.filter (hiF c'.n c'.s))):=by
   conv=>lhs;rw [sp]
   exact List.perm_middle
  exact ((hH.perm hp).put_old t (c:=c') ⟨e1,e2⟩).perm Qh5
 ·cases e
 ·exact (((hH.perm (QfO hn)).put_new t (c:=c') k (fun d hd e=>hn ⟨d,(QfO hn).mem_iff.2 hd,e⟩))).perm Qh5
theorem Qqh {w w':World} {B:Nat} {M:List Ce} {c':Ce} (h:CesO w B M) (hb:Below w.heap.size w w') (hB:B<=w.heap.size) (ho:AgO w' w.heap.size c'.g c'.p):CesO w' B (M.filter (loF c'.n c'.s) ++ c' :: M.filter (hiF c'.n c'.s)):=by
 have h1:=h.add hb hB ho;have s:(M.filter (loF c'.n c'.s) ++ M.filter (hiF c'.n c'.s)).Sublist M∨True:=.inr trivial;refine CesO.perm (L:=c' :: (M.filter (loF c'.n c'.s) ++ M.filter (hiF c'.n c'.s))) ?_ Qh5;have hd:∀ x,loF c'.n c'.s x=true->hiF c'.n c'.s x=false:=fun x q=>QeM q;refine ⟨fun d hd'=>?_,List.pairwise_cons.2 ⟨fun d hd'=>?_,?_⟩⟩
 ·rcases List.mem_cons.1 hd' with rfl | q
  ·exact h1.o _ (by simp)
  ·refine h1.o d (ZZm _ ?_)
   rcases List.mem_append.1 q with q | q
   ·exact (List.mem_filter.1 q).1
   ·exact (List.mem_filter.1 q).1
 ·refine (List.pairwise_cons.1 h1.ap).1 d ?_
  rcases List.mem_append.1 hd' with q | q
  ·exact (List.mem_filter.1 q).1
  ·exact (List.mem_filter.1 q).1
 ·have ap:=(List.pairwise_cons.1 h1.ap).2
  refine List.pairwise_append.2 ⟨ap.filter _,ap.filter _,fun a ha b hb'=>?_⟩;obtain ⟨a1,a2⟩:=List.mem_filter.1 ha;obtain ⟨b1,b2⟩:=List.mem_filter.1 hb';obtain ⟨i,hi,rfl⟩:=List.getElem_of_mem a1;obtain ⟨j,hj,rfl⟩:=List.getElem_of_mem b1;have aa:i≠j:=fun e=>by subst e;rw [hd _ a2] at b2;cases b2
  rcases Nat.lt_or_gt_of_ne aa with q | q
  ·exact (List.pairwise_iff_getElem.1 ap) i j hi hj q
  ·exact ((List.pairwise_iff_getElem.1 ap) j i hj hi q).symm
theorem QqT {M:List Ce} {m:Int} {s:ByteArray} {kind:Int} {g:Ag} {p:Pl} {c':Ce} (hA:AscC M) (e1:c'.n=m) (e2:c'.s=s) (af:AfA M m s kind g p 0):(Qds M m s/\(M.filter (loF m s) ++ c' :: M.filter (hiF m s)).length=M.length)∨(¬ Qds M m s/\(M.filter (loF m s) ++ c' :: M.filter (hiF m s)).length=M.length+1):=by
 rcases af.a with ⟨c,hc,k1,k2,_⟩ | ⟨c,hc,_,_,_,_,_,e⟩ | ⟨hn,_⟩
 ·refine .inl ⟨⟨c,hc,k1,k2⟩,?_⟩
  have sp:=congrArg List.length (Qc1 hA hc);rw [k1,k2] at sp;simp only [List.length_append,List.length_cons] at sp ⊢;omega
 ·cases e
 ·refine .inr ⟨hn,?_⟩
  have:=(QfO hn).length_eq;simp only [List.length_append,List.length_cons] at this ⊢;omega
theorem QkG {L M:List Ce} {m:Int} {s:ByteArray} (k:M.map Ce.key=L.map Ce.key):Qds M m s↔Qds L m s:=by
 constructor
 ·rintro ⟨c,hc,e1,e2⟩
  obtain ⟨d,hd,q1,q2,_⟩:=Qcw k hc;exact ⟨d,hd,q1.trans e1,q2.trans e2⟩
 ·rintro ⟨c,hc,e1,e2⟩
  obtain ⟨d,hd,q1,q2,_⟩:=Qcw k.symm hc;exact ⟨d,hd,q1.trans e1,q2.trans e2⟩
theorem Qqv {nm:ByteArray} {L M:List Ce} {win:Int} {x:Sx} {g o:Ag} {p q:Pl} (h:shB nm L=true/\x.B=true/\Qfq win=true) (k:M.map Ce.key=L.map Ce.key) (af:AfA M win x.se x.k g p 0) (hp:AgPut g x o) (hl:¬ Qds M win x.se->L.length<60):PtA nm L win x nm (M.filter (loF win x.se) ++ ⟨win,x.se,o,q⟩ :: M.filter (hiF win x.se)) 0:=by
 have hR:PtL L win x.se o (M.filter (loF win x.se) ++ ⟨win,x.se,o,q⟩ :: M.filter (hiF win x.se)):=PtL.key (by unfold PtL;rw [List.map_append,List.map_cons];rfl) k;rcases af.a with ⟨c,hc,e1,e2,e3,rfl,rfl,_⟩ | ⟨c,hc,_,_,_,_,_,e⟩ | ⟨hn,rfl,rfl,_⟩
 ·obtain ⟨d,hd,q1,q2,q3⟩:=Qcw k hc
  exact .there d o _ h hd (q1.trans e1) (q2.trans e2) (by rw [q3];exact e3) (by rw [q3];exact hp) hR
 ·cases e
 ·exact .new o _ h (fun q=>hn ((QkG k).2 q)) (hl hn) hp hR
theorem af_ag {w:World} {B:Nat} {M:List Ce} {m:Int} {s:ByteArray} {kind:Int} {g:Ag} {p:Pl} {code:Int} (af:AfA M m s kind g p code) (h1:1<=kind) (h4:kind<=4) (hO:CesO w B M) (ok:∀ c∈M,AgOk c.g) (sm:∀ c∈M,AgSm c.g) (z:code=0):AgOk g/\AgSm g/\AgO w B g p:=by
 rcases af.a with ⟨c,hc,e1,e2,e3,rfl,rfl,_⟩ | ⟨c,hc,_,_,_,_,_,e⟩ | ⟨hn,rfl,rfl,_⟩
 ·exact ⟨ok c hc,sm c hc,hO.o c hc⟩
 ·rw [z] at e;cases e
 ·have e:QaN kind=⟨kind,0,0,0,0,if kind=2 then -1 else 0,0,[],[],0,0,[],[]⟩:=by unfold QaN;rw [if_pos ⟨h1,h4⟩]
  have zi:I64 0:=by unfold I64;omega
  have zu:U64 0:=by unfold U64;omega
  rw [e];exact ⟨⟨by show I64 kind;unfold I64;omega,zu,zi,zu,zi,by show I64 (if kind=2 then -1 else 0);split <;> (unfold I64;omega),zu,zi,zu,(fun b hb=>by cases hb),(fun b hb=>by cases hb),(fun b hb=>by cases hb),(fun b hb=>by cases hb)⟩,⟨Nat.zero_le _,Nat.zero_le _,Nat.zero_le _,Nat.zero_le _⟩,AgO.nil _ _ rfl rfl rfl rfl⟩
theorem AgO.plgP {w:World} {B:Nat} {g:Ag} {p:Pl} (h:AgO w B g p):PlG g p:=by
 have fb:∀ {ao:Option Addr} {n c:Nat} {L:List Bn},OwnB w B (.slice ao n c) n L->ao=none->c=0:=fun {ao n c L} o e=>by
  rcases o.2 with ⟨q,_⟩ | ⟨b,ab,c',aa,q,_⟩
  ·cases q;rfl
  ·cases q;cases e
 have fn:∀ {kd:IntKind} {T:TypeId} {ao:Option Addr} {n c:Nat} {L:List Int},OwnN kd T w B (.slice ao n c) n L->(ao=none->c=0)/\Qmw ao/\n<=c/\c<=maxLen:=fun {kd T ao n c L} o=>by
  rcases o.2.2 with ⟨q,q0⟩ | ⟨b,c',aa,q,_,_,q1,q2,_⟩
  ·cases q;exact ⟨fun _=>rfl,.inl rfl,ZZa _,ZZj _⟩
  ·cases q;exact ⟨(fun e=>by cases e),.inr ⟨_,_,rfl⟩,q1,q2⟩
 exact ⟨fb h.P,fb h.N,(fn h.E).1,(fn h.R).1,(fn h.E).2.1,(fn h.R).2.1,(fn h.E).2.2.1,(fn h.E).2.2.2⟩
def CeQ1 (M:List Ce):Prop:=(∀ c∈M,AgOk c.g)/\∀ c∈M,AgSm c.g
theorem CeQ1.of {w:World} {ao:Option Addr} {N:Nat} {L M:List Ce} (h:ShI w ao N L) (k:M.map Ce.key=L.map Ce.key):CeQ1 M:=by
 refine ⟨fun c hc=>?_,fun c hc=>?_⟩
 ·obtain ⟨d,hd,_,_,e⟩:=Qcw k hc
  rw [<- e];exact h.ok d hd
 ·obtain ⟨d,hd,_,_,e⟩:=Qcw k hc
  rw [<- e];exact h.sm d hd
def PtP (w:World) (nm:ByteArray) (L:List Ce) (win:Int) (x:Sx) (e:Ending) (w':World):Prop:=∃ v nm' R code,e=.returned v/\PtA nm L win x nm' R code/\ShO w' w.heap.size v nm' R [] code/\Below w.heap.size w w'
theorem Qp4 (w:World) (a b c:Array Value) (T U V:TypeId):Hid (Below w.heap.size w (((w.alloc (.cells a T)).alloc (.cells b U)).alloc (.cells c V)))/\Hid ((((w.alloc (.cells a T)).alloc (.cells b U)).alloc (.cells c V)).heap[w.heap.size]?=some (.cells a T (0,0)))/\Hid ((((w.alloc (.cells a T)).alloc (.cells b U)).alloc (.cells c V)).heap[w.heap.size+1]?=some (.cells b U (0,0)))/\Hid ((((w.alloc (.cells a T)).alloc (.cells b U)).alloc (.cells c V)).heap[w.heap.size+1+1]?=some (.cells c V (0,0)))/\Hid ((((w.alloc (.cells a T)).alloc (.cells b U)).alloc (.cells c V)).heap.size=w.heap.size+3):=by
 have a1:∀ (X:World) o,Below X.heap.size X (X.alloc o):=fun X o=>(ZZb _ _).alloc (ZZa _) _;have k0:=ZZk w (.cells a T);have k1:=ZZk (w.alloc (.cells a T)) (.cells b U);have k2:=ZZk ((w.alloc (.cells a T)).alloc (.cells b U)) (.cells c V);simp only [World.size_alloc] at k1 k2;exact ⟨Qaa (Qac (Qac (a1 _ _) (a1 _ _)) (a1 _ _)),Qaa (((Qac (a1 _ _) (a1 _ _)).block _ (by simp)).trans k0),Qaa (((a1 _ _).block _ (by simp)).trans k1),Qaa k2,Qaa (by simp)⟩
theorem Qal {w w':World} {r:Nat} {b:Obj} (h:w.heap[r]?=some b) (hb:Below w.heap.size w w'):w'.heap[r]?=some b:=(hb.block _ (ZZc.1 h).1).trans h
theorem QgS {w:World} {r:Nat} {x:Sx} (h:w.heap[r]?=some (.cells (Qaz x) 28 (0,0))):w.cell? ⟨r,0,none⟩=some (.int .i64 x.k)/\w.cell? ⟨r,1,none⟩=some (.string x.se)/\w.cell? ⟨r,2,none⟩=some (.int .i64 x.v)/\w.cell? ⟨r,3,none⟩=some (.string x.wd)/\w.cell? ⟨r,4,none⟩=some (.int .u64 x.wt)/\w.cell? ⟨r,5,none⟩=some (.bool x.tm)/\w.cell? ⟨r,6,none⟩=some (.int .i64 x.ti):=⟨Qay h 0 rfl,Qay h 1 rfl,Qay h 2 rfl,Qay h 3 rfl,Qay h 4 rfl,Qay h 5 rfl,Qay h 6 rfl⟩
set_option maxHeartbeats 8000000 in
theorem QfV {w:World} {ao:Option Addr} {N ca:Nat} {L:List Ce} (nm:ByteArray) (win:Int) (x:Sx) (hs:nm.size<=maxLen) (ox:x.Ok) (hm:MX w) (hI:ShI w ao N L) :
  Calls Tryz.prog 8 #[.agg #[.string nm,.slice ao N ca],.int .i64 win,.agg (Qaz x)] w (PtP w nm L win x):=by
 obtain ⟨k0,k1,k2,k3,k4⟩:=Qp4 w #[.string nm,.slice ao N ca] (Qaz x) #[.string ⟨#[]⟩,.slice none 0 0,.slice none 0 0,.int .i64 0] 25 28 32;have II:=Qaa hI;have HM:=Qaa hm;have OX:=Qaa ox;have ak:Hid (∀ W j u,Below w.heap.size w W->Below w.heap.size w (W.setCell ⟨w.heap.size+1+1,j,none⟩ u)):=fun W j u q=>q.setCell (by simp;omega) u;clear hI hm ox;have z0:=Qay k1 0 rfl;have z1:=Qay k1 1 rfl;go_enter Tryz.func8,Tryz.ntmps8;go_wp2_with fail;clear z0 z1;generalize ((w.alloc (.cells #[.string nm,.slice ao N ca] 25)).alloc (.cells (Qaz x) 28)).alloc (.cells #[.string ⟨#[]⟩,.slice none 0 0,.slice none 0 0,.int .i64 0] 32)=W0 at k0 k1 k2 k3 k4 ⊢;refine (Qhu nm hs II.out.hN II.out.lN II.out.ok II.out.sm II.out.ss (HM.out.past k0) (Qa1 II.out.mem k0)).mono ?_;rintro e w1 ⟨rfl,al⟩;have ax:=Qaa (Qac k0 al);have X1:=Qaa (Qal k1 al);have Y1:=Qaa (Qal k2 al);have Z1:=Qaa (Qal k3 al);have S1:Hid (w.heap.size+3<=w1.heap.size):=by show _<=_;have:=al.size;have:=k4.out;omega
 clear al k0 k1 k2 k3 k4
 cases h1:shB nm L with
 | false=>
  have HA:Hid (PtA nm L win x ⟨#[]⟩ [] 1):=PtA.form (fun q=>by rw [h1] at q;cases q.1);clear h1;obtain ⟨f0,f1,f2,f3⟩:=fA4 Z1;obtain ⟨y0,y1,y2,y3⟩:=cA4 Z1;go_wp2;refine bodyPost_ret (v:=.agg #[.string ⟨#[]⟩,.slice none 0 0,.slice none 0 0,.int .i64 1]) (by simp [results,Tryz.results8,go_sem,y0,y1,y2,y3]) rfl ?_;refine show PtP _ _ _ _ _ _ _ from ⟨_,_,_,_,rfl,HA,ShO.none _ _ _,?_⟩
  repeat (refine ak.out _ _ _ ?_)
  exact ax.out
 | true=>
  obtain ⟨x0,x1,x2,x3,x4,x5,x6⟩:=QgS Y1;go_wp2_with fail;clear x0 x1 x2 x3 x4 x5 x6;refine (QdA x.k x.se x.v x.wd x.wt x.tm x.ti (HM.out.past ax) OX.out.se OX.out.wd).mono ?_;rintro e w2 ⟨rfl,aq⟩;have ay:=Qaa (Qac ax aq);have X2:=Qaa (Qal X1 aq);have Y2:=Qaa (Qal Y1 aq);have Z2:=Qaa (Qal Z1 aq);have S2:Hid (w.heap.size+3<=w2.heap.size):=by show _<=_;have:=aq.size;have:=S1.out;omega
  clear aq X1 Y1 Z1 ax S1
  cases h2:QbA x.k x.se x.v x.wd x.wt x.tm x.ti with
  | false=>
   have HA:Hid (PtA nm L win x ⟨#[]⟩ [] 1):=PtA.form (fun q=>by have:=q.2.1;unfold Sx.B at this;rw [h2] at this;cases this);clear h1 h2;obtain ⟨f0,f1,f2,f3⟩:=fA4 Z2;obtain ⟨y0,y1,y2,y3⟩:=cA4 Z2;go_wp2;refine bodyPost_ret (v:=.agg #[.string ⟨#[]⟩,.slice none 0 0,.slice none 0 0,.int .i64 1]) (by simp [results,Tryz.results8,go_sem,y0,y1,y2,y3]) rfl ?_;refine show PtP _ _ _ _ _ _ _ from ⟨_,_,_,_,rfl,HA,ShO.none _ _ _,?_⟩
   repeat (refine ak.out _ _ _ ?_)
   exact ay.out
  | true=>
   go_wp2_with fail;refine (Qe8 win _).mono ?_;rintro e wz ⟨rfl,bf⟩;obtain rfl:=bf.symm
   cases h3:Qfq win with
   | false=>
    have HA:Hid (PtA nm L win x ⟨#[]⟩ [] 1):=PtA.form (fun q=>by rw [h3] at q;cases q.2.2);clear h1 h2 h3;obtain ⟨f0,f1,f2,f3⟩:=fA4 Z2;obtain ⟨y0,y1,y2,y3⟩:=cA4 Z2;go_wp2;refine bodyPost_ret (v:=.agg #[.string ⟨#[]⟩,.slice none 0 0,.slice none 0 0,.int .i64 1]) (by simp [results,Tryz.results8,go_sem,y0,y1,y2,y3]) rfl ?_;refine show PtP _ _ _ _ _ _ _ from ⟨_,_,_,_,rfl,HA,ShO.none _ _ _,?_⟩
    repeat (refine ak.out _ _ _ ?_)
    exact ay.out
   | true=>
    have HH:Hid (shB nm L=true/\x.B=true/\Qfq win=true):=⟨h1,h2,h3⟩;have KW:Hid (QbR win x.se):=⟨Qj5 h3,OX.out.se⟩;have RK:=Qaa (QhB II (Qer h1));have RA:=Qaa (csR_iff.1 (Qer h1)).2.2;have RL:=Qaa (csR_iff.1 (Qer h1)).1;obtain ⟨aY,a0⟩:=(Qbo HH.out.2.1).1;have z1:=Qay X2 1 rfl;clear h1 h2 h3;go_wp2_with fail;clear z1;refine (QfX II.out.hN II.out.lN RA.out.ap RK II.out.sm II.out.pl (Qa1 II.out.mem ay)).mono ?_;rintro e w3 ⟨M,rfl,aI,aB,hO,aM⟩;have KY:=Qaa aB;have AM:=Qaa (Qfz aB RA);have LM:=Qaa (QcS aB);have ac:=Qac aM ((ZZb w3.heap.size w3).alloc (ZZa _) (.cells #[.int .i64 win,.string x.se] 85));have aA:=Qaa (aI.past ((ZZb w3.heap.size w3).alloc (ZZa _) (.cells #[.int .i64 win,.string x.se] 85)));have HO:=Qaa (hO.past ((ZZb w3.heap.size w3).alloc (ZZa _) (.cells #[.int .i64 win,.string x.se] 85)));have aF:=Qaa (Qac ay ac);have X3:=Qaa (Qal X2 ac);have Y3:=Qaa (Qal Y2 ac);have Z3:=Qaa (Qal Z2 ac);have K3:=Qaa (ZZk w3 (.cells #[.int .i64 win,.string x.se] 85));have S3:Hid (w2.heap.size<w3.heap.size):=aI.lt;have aD:w.heap.size+3<=w3.heap.size:=by have:=S3.out;have:=S2.out;omega
    obtain ⟨x0,x1,x2,x3,x4,x5,x6⟩:=QgS (Qal Y2 aM);clear aI aB hO aM ac RK RA;go_upto_region 5 with fail;clear x0 x1 x2 x3 x4 x5 x6;generalize w3.alloc (.cells #[.int .i64 win,.string x.se] 85)=W3 at aA HO aF X3 Y3 Z3 K3 ⊢;generalize w3.heap.size=rk at K3 S3 aD ⊢;have x0:=Qad Y3 0 rfl;have q0:=Qad K3 0 rfl;have q1:=Qad K3 1 rfl;go_wp2_with fail;clear x0 q0 q1;refine (Qle win x.se x.k aA KW aY a0).mono ?_;rintro e w4 ⟨g,p,ae,rfl,a7,af⟩;have AF:=Qaa a7;have av:=Qaa (aA.out.past af);have aW:=Qaa (HO.out.past af);have aH:=Qaa (Qac aF af);have X4:=Qaa (Qal X3 af);have Y4:=Qaa (Qal Y3 af);have Z4:=Qaa (Qal Z3 af);have K4:=Qaa (Qal K3 af);have S4:=Qaa af.size;clear a7 af aA HO aF X3 Y3 Z3 K3;by_cases aa:ae=0
    ·have bc:(ae != 0)=false:=by simp [aa]
     have aC:=Qaa aa;have a5:Below w4.heap.size w4 (w4.alloc (.cells (Qak g p) 49)):=(ZZb _ _).alloc (ZZa _) _;have ad:=Qaa (av.out.past a5);have aw:=Qaa (aW.out.past a5);have ai:=Qaa (Qac aH a5);have X5:=Qaa (Qal X4 a5);have Y5:=Qaa (Qal Y4 a5);have Z5:=Qaa (Qal Z4 a5);have K5:=Qaa (Qal K4 a5);have G5:=Qaa (ZZk w4 (.cells (Qak g p) 49));clear a5 aa av aW aH X4 Y4 Z4 K4;go_upto_region 8 with fail;generalize w4.alloc (.cells (Qak g p) 49)=W5 at ad aw ai X5 Y5 Z5 K5 G5 ⊢;generalize w4.heap.size=rg at G5 S4 ⊢;have Qm:Hid (CeQ1 M):=CeQ1.of II KY;obtain ⟨aV,aO,aZ⟩:=af_ag AF aY a0 aw Qm.out.1 Qm.out.2 aC;have GK:=Qaa aV;have GS:=Qaa aO;have GO:=Qaa aZ;clear aV aO aZ
     go_cut [7] (fun v w'=>v=.map (some w2.heap.size)/\∃ (og:Ag) (q:Pl),Hid (AgPut g x og)/\Hid (MpC w' w2.heap.size (N+1) (M.filter (loF win x.se) ++ ⟨win,x.se,og,q⟩ :: M.filter (hiF win x.se)))/\Hid (CesO w' (w2.heap.size+1) (M.filter (loF win x.se) ++ ⟨win,x.se,og,q⟩ :: M.filter (hiF win x.se)))/\Hid (W5.grownBy w' (some w2.heap.size)))
     case first=>
      have ab:(fun W=>Below W5.heap.size W5 W) W5.drew:=(ZZb _ _).drew;refine Qaj (fun W=>Below W5.heap.size W5 W) 5 (by kernel_rfl) ?_;refine tkS 0 (.map (some w2.heap.size)) ab ?_;refine tkL 1 (.agg #[.int .i64 win,.string x.se]) ab (fun W hW=>?_) ?_
      ·have q0:=Qab hW (Qay K5 0 rfl)
       have q1:=Qab hW (Qay K5 1 rfl);clear hW;go_simp
      refine tkL 2 (.agg (Qak g p)) ab (fun W hW=>?_) ?_
      ·have GG:=Qal G5 hW
       obtain ⟨q0,q1,q2,q3,q4,q5,q6,q7,q8,q9,bj,bk,bl⟩:=Qbt GG;clear GG;clear hW;go_simp
      simp only [sX];refine tkL 3 (.agg (Qaz x)) ab (fun W hW=>?_) ?_
      ·obtain ⟨x0,x1,x2,x3,x4,x5,x6⟩:=QgS (Qal Y5 hW)
       clear hW;go_simp
      simp only [sX];refine onE 4 fun K hK=>?_;go_simp;refine (Ql7 x GK OX GS GO.out.plgP ((HM.out.past ai).past (ab:Below W5.heap.size W5 W5.drew)) (Qao GO.out.at (ab:Below W5.heap.size W5 W5.drew))).mono ?_;rintro e w6 ⟨v,og,rfl,a2,⟨q,rfl,ho⟩,a6⟩;have aj:Hid (Below W5.heap.size W5 w6):=(ab:Below W5.heap.size W5 W5.drew).trans (a6.mono (ZZa _));have aE:=Qaa a2;have ba:Hid (AgO w6 W5.heap.size og q):=ho;clear a2 ho a6;dsimp only;refine gK hK aj.out ?_
      try simp only [sX]
      obtain ⟨D,hD,hH⟩:=ad.out.past aj;obtain ⟨W7,bd,aS,aG⟩:=hD.update (val:=.agg (Qak og q)) (d:=Qga ⟨win,x.se,og,q⟩) (ps:=[]) keyC Tryz.underlying82 (by have:=II.out.lN;unfold maxLen;omega) (QbB KW) rfl;have am:AfA M win x.se x.k g p 0:=aC.out ▸ AF.out;have HF:=Qaa (And.intro (show MpC W7 w2.heap.size (N+1) (M.filter (loF win x.se) ++ ⟨win,x.se,og,q⟩ :: M.filter (hiF win x.se)) from ⟨_,aS,Qp3 (c':=⟨win,x.se,og,q⟩) hH (hD.tidy keyC) AM KW am⟩) (And.intro ((Qqh (c':=⟨win,x.se,og,q⟩) aw aj (Nat.succ_le_of_lt ad.out.lt) ba).grown aG (Nat.lt_succ_self _)) (show W5.grownBy W7 (some w2.heap.size) from (World.grownBy.but ⟨aj.out.os,aj.out.tape,aj.out.output,aj.out.size,fun i hi _=>aj.out.block i hi⟩ _).andThen aG (fun j hj=>.inr hj))));clear hD hH aS aG am;refine onE 5 fun K hK=>?_;go_simp;refine hK.out _ _ (fun h=>absurd rfl h) ?_
      try simp only [sX]
      refine dnE ?_ _;go_wp2;go_meet;exact ⟨rfl,og,q,aE,Qaa HF.out.1,Qaa HF.out.2.1,Qaa HF.out.2.2⟩
     case rest=>
     obtain ⟨rfl,og,q,aE,ag,aN,au⟩:=hcut;obtain ⟨W7,a4⟩:∃ X,wc=X:=⟨_,rfl⟩;rw [a4] at ag aN au ⊢;clear a4;have am:AfA M win x.se x.k g p 0:=aC.out ▸ AF.out;have hz:=ad.out.lt;have s2:=S2.out;have aQ:Hid (Below w.heap.size w W7):=ai.out.grown au ai.out.size (fun j hj=>by cases hj;omega);have X7:=Qaa ((au.out.block _ (Array.getElem?_eq_some_iff.1 X5).1 (by simp;omega)).trans X5);have Z7:=Qaa ((au.out.block _ (Array.getElem?_eq_some_iff.1 Z5).1 (by simp;omega)).trans Z5);have bb:Hid (w.heap.size+3<=W7.heap.size):=by show _<=_;have:=au.out.size;omega
     have PL:=Qaa (QqT (c':=⟨win,x.se,og,q⟩) AM rfl rfl am);have bh:=Qaa am;have az:L.length=N:=II.out.hN;have a3:=Qaa az;have aT:M.length=N:=LM.out.trans az;have aK:=Qaa aT;have bi:N<=60:=by rw [<- az];exact RL.out
     have a8:=Qaa (Qky (c:=⟨win,x.se,og,q⟩) AM);generalize hR7:M.filter (loF win x.se) ++ ⟨win,x.se,og,q⟩ :: M.filter (hiF win x.se)=R7 at ag aN PL a8;have aR:=Qaa hR7;obtain ⟨D,hD,aX⟩:=ag.out.len;have HD:=Qaa hD;have a9:=Qaa aX;clear am hz s2 az aT hR7 hD aX ad aw ai X5 Y5 Z5 K5 G5 GO GK GS;by_cases ah:60<R7.length
     ·have HA:Hid (PtA nm L win x ⟨#[]⟩ [] 8):=by
       rcases PL.out with ⟨_,e⟩ | ⟨hn,e⟩
       ·have:=aK.out;omega
       ·exact PtA.full HH (fun q=>hn ((QkG KY).2 q)) (by have:=aK.out;have:=a3.out;omega)
      have aJ:(60:Int)<((Maps.size D:Nat):Int):=by rw [a9.out];omega
      clear ah;obtain ⟨f0,f1,f2,f3⟩:=fA4 Z7;obtain ⟨y0,y1,y2,y3⟩:=cA4 Z7;go_wp2_with (at_len;refine wpList_len_own _ rfl _ 82 rfl 85 49 Tryz.underlying82 _ w2.heap.size (N+1) _ rfl HD ?_);refine bodyPost_ret (v:=.agg #[.string ⟨#[]⟩,.slice none 0 0,.slice none 0 0,.int .i64 8]) (by simp [results,Tryz.results8,go_sem,y0,y1,y2,y3]) rfl ?_;refine show PtP _ _ _ _ _ _ _ from ⟨_,_,_,_,rfl,HA,ShO.none _ _ _,?_⟩
      repeat (refine ak.out _ _ _ ?_)
      exact aQ.out
     ·have HA:Hid (PtA nm L win x nm R7 0):=by
       rw [<- aR.out];refine Qqv HH KY bh aE (fun hn=>?_);rcases PL.out with ⟨q,_⟩ | ⟨_,e⟩
       ·exact absurd q hn
       ·have:=aK.out;have:=a3.out;omega
      have aJ:¬ (60:Int)<((Maps.size D:Nat):Int):=by rw [a9.out];omega
      have aU:R7.length<=1048576:=by omega
      have be:=Qaa aU;clear ah aU;go_upto_region 11 with (at_len;refine wpList_len_own _ rfl _ 82 rfl 85 49 Tryz.underlying82 _ w2.heap.size (N+1) _ rfl HD ?_);have ab:(fun W=>Below W7.heap.size W7 W) W7.drew:=(ZZb _ _).drew;refine Qaj (fun W=>Below W7.heap.size W7 W) 6 (by kernel_rfl) ?_;refine tkS 0 (.pointer (some ⟨w.heap.size,0,none⟩)) ab ?_;refine tkL 1 (.string nm) ab (fun W hW=>?_) ?_
      ·have x0:=Qab hW (Qay X7 0 rfl)
       clear hW;go_simp
      refine tkS 2 (.map (some w2.heap.size)) ab ?_;simp only [sX];refine onE 3 fun K hK=>?_;go_simp;refine (Qp1 (ag.out.past (ab:Below W7.heap.size W7 W7.drew)) (aR.out ▸ a8.out) be).mono ?_;rintro e w8 ⟨vr,rfl,hr,a1⟩;have an:Hid (Below W7.heap.size W7 w8):=(ab:Below W7.heap.size W7 W7.drew).trans (a1.mono (ZZa _));have aP:=Qaa hr;clear hr a1;dsimp only;refine gK hK an.out ?_
      try simp only [sX]
      obtain ⟨ar,cr,rfl,_⟩:=aP.out.form;refine tkS 4 (.agg #[.string nm,.slice ar R7.length cr]) an ?_;refine tkS 5 (.agg #[.string nm,.slice ar R7.length cr,.slice none 0 0,.int .i64 0]) an ?_;simp only [sX];have Z8:=Qaa (Qal Z7 an);obtain ⟨f0,f1,f2,f3⟩:=fA4 Z8;obtain ⟨y0,y1,y2,y3⟩:=cA4 Z8;refine onE 6 fun K hK=>?_;go_simp;refine hK.out _ _ (fun h=>absurd rfl h) ?_
      try simp only [sX]
      refine dnE ?_ _;go_wp2;have bg:w.heap.size+1+1<W7.heap.size:=by have:=bb.out;omega
      have aL:w.heap.size+1+1<w2.heap.size+1:=by have:=S2.out;omega
      refine bodyPost_ret (v:=.agg #[.string nm,.slice ar R7.length cr,.slice none 0 0,.int .i64 0]) (by simp [results,Tryz.results8,go_sem,y0,y1,y2,y3]) rfl ?_;refine show PtP _ _ _ _ _ _ _ from ⟨_,_,_,_,rfl,HA,⟨⟨_,_,rfl,?_,OwnC.nil _ _,fun k _ q=>by cases q⟩,?_⟩,?_⟩
      ·refine OwnC.le ?_ (show w.heap.size<=W7.heap.size by omega)
       repeat (refine OwnC.setNe ?_ bg _)
       exact aP.out
      ·rw [List.append_nil]
       refine CesO.le ?_ (show w.heap.size<=w2.heap.size+1 by omega)
       repeat (refine CesO.setNe ?_ aL _)
       exact aN.out.past an
      ·repeat (refine ak.out _ _ _ ?_)
       exact Qac aQ an
    ·have HA:Hid (PtA nm L win x ⟨#[]⟩ [] ae):=by
      rcases AF.out.a with ⟨_,_,_,_,_,_,_,e⟩ | ⟨c,hc,e1,e2,e3,_,_,rfl⟩ | ⟨_,_,_,e⟩
      ·exact absurd e aa
      ·obtain ⟨d,hd,q1,q2,q3⟩:=Qcw KY hc
       exact PtA.kind d HH hd (q1.trans e1) (q2.trans e2) (by rw [q3];exact e3)
      ·exact absurd e aa
     have bc:(ae != 0)=true:=by simp [aa]
     have a5:Below w4.heap.size w4 (w4.alloc (.cells (Qak g p) 49)):=(ZZb _ _).alloc (ZZa _) _;have ai:=Qaa (Qac aH a5);have Z5:=Qaa (Qal Z4 a5);clear a5 aa;go_upto_region 6 with fail;generalize w4.alloc (.cells (Qak g p) 49)=W5 at ai Z5 ⊢;obtain ⟨f0,f1,f2,f3⟩:=fA4 Z5;obtain ⟨y0,y1,y2,y3⟩:=cA4 Z5;go_wp2;refine bodyPost_ret (v:=.agg #[.string ⟨#[]⟩,.slice none 0 0,.slice none 0 0,.int .i64 ae]) (by simp [results,Tryz.results8,go_sem,y0,y1,y2,y3]) rfl ?_;refine show PtP _ _ _ _ _ _ _ from ⟨_,_,_,_,rfl,HA,ShO.none _ _ _,?_⟩
     repeat (refine ak.out _ _ _ ?_)
     exact ai.out
end Go.Proofs.YtandnmpllheniaaGreatDoor
