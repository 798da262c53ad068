/-
 Parts.
-/
import Derived.Test.YtandnmpllheniaaGreatDoorCCG
import Derived.DeepKeys4
import Derived.Test.YtandnmpllheniaaGreatDoorCKD
import Derived.Sort.Statements
set_option linter.all false
set_option maxRecDepth 10000
namespace Go.Proofs.YtandnmpllheniaaGreatDoor
open Go.ChangeShapes Go.WideShapes Go.ChangeAt Go.RowKit Go.PlainAid Go.Lib Go.Maps
abbrev Qmg (n:Int) (s:ByteArray):Value:=.agg #[.int .i64 n,.string s]
def kL (n:Int) (s:ByteArray):Lit:=.string (keyBytes [.int .i64 n,.string s.data.toList])
def QbR (n:Int) (s:ByteArray):Prop:=I64 n/\s.size<=maxLen
theorem laidC:laidOutB Tryz.prog=true:=by kernel_rfl
theorem keyRow:(85:TypeId)<Tryz.prog.types.size:=of_decide_eq_true (by kernel_rfl)
theorem keyC:Keyed Tryz.prog 85:=Keyed.of_law (deep_law_laid laidC (m:=2) (by omega) keyRow (by kernel_rfl) (by kernel_rfl))
theorem keyTy:Tryz.prog.keyType 85=true:=by kernel_rfl
theorem Qgf:Tryz.prog.cellsOf 85=2:=by kernel_rfl
theorem cellsI:Tryz.prog.cellsOf 2=1:=by kernel_rfl
theorem cellsS:Tryz.prog.cellsOf 9=1:=by kernel_rfl
theorem Qqk:Tryz.prog.types.size+1=(341 - 1)+1+1:=by kernel_rfl
theorem wfI {n:Int} (h:I64 n):(Lit.int .i64 n).wf=true:=by
 unfold I64 at h;simp [Lit.wf,IntKind.signed,IntKind.bits,IntKind.min,IntKind.max];omega
theorem Qn5 {n:Int} (h:(Lit.int .i64 n).wf=true):I64 n:=by
 unfold I64;simp [Lit.wf,IntKind.signed,IntKind.bits,IntKind.min,IntKind.max] at h;omega
theorem QlP (d:Nat) (a b:Value):Tryz.prog.keyLits (d+1+1) 85 [a,b]=(Tryz.prog.keyLits (d+1) 2 [a]).bind fun x=>(Tryz.prog.keyLits (d+1) 9 [b]).map fun y=>x ++ y:=by
 conv=>lhs;unfold Program.keyLits
 simp only [Tryz.underlying85,Qgf];simp [cellsI,cellsS]
 cases Tryz.prog.keyLits (d+1) 2 [a] <;> cases Tryz.prog.keyLits (d+1) 9 [b] <;> simp
theorem Qlu (d:Nat) (a:Value) (l:List Lit):Tryz.prog.keyLits (d+1) 2 [a]=some l↔∃ n,a=.int .i64 n/\I64 n/\l=[.int .i64 n]:=by
 unfold Program.keyLits;simp only [Tryz.underlying2];constructor
 ·intro h
  cases a <;> simp at h
  obtain ⟨⟨rfl,hw⟩,rfl⟩:=h;exact ⟨_,rfl,Qn5 hw,rfl⟩
 ·rintro ⟨n,rfl,hn,rfl⟩
  simp [wfI hn]
theorem QlD (d:Nat) (a:Value) (l:List Lit):Tryz.prog.keyLits (d+1) 9 [a]=some l↔∃ s,a=.string s/\s.size<=maxLen/\l=[.string s.data.toList]:=by
 unfold Program.keyLits;simp only [Tryz.underlying9];constructor
 ·intro h
  cases a <;> simp at h
  obtain ⟨hw,rfl⟩:=h;exact ⟨_,rfl,hw,rfl⟩
 ·rintro ⟨s,rfl,hs,rfl⟩
  simp [hs]
theorem QbB {n:Int} {s:ByteArray} (h:QbR n s):keyOf Tryz.prog 85 (Qmg n s)=some (kL n s):=by
 have h1:=(Qlu (341 - 1) (.int .i64 n) _).2 ⟨n,rfl,h.1,rfl⟩;have h2:=(QlD (341 - 1) (.string s) _).2 ⟨s,rfl,h.2,rfl⟩;have h3:=QlP (341 - 1) (.int .i64 n) (.string s);rw [h1,h2] at h3;have hf:(Qmg n s).formed Tryz.prog 85=true:=by simp [Value.formed,Tryz.underlying85,Qgf]
 unfold keyOf;simp only [Tryz.underlying85,keyTy,hf,Bool.and_self,if_true,Qqk]
 show Option.map _ (Tryz.prog.keyLits (341 - 1+1+1) 85 [.int .i64 n,.string s])=_
 rw [h3]
 rfl
theorem Qji {key:Value} {kl:Lit} (h:keyOf Tryz.prog 85 key=some kl):∃ n s,key=Qmg n s/\kl=kL n s/\QbR n s:=by
 have h0:=h;unfold keyOf at h;simp only [Tryz.underlying85,keyTy,Bool.true_and,Qqk] at h;by_cases hf:key.formed Tryz.prog 85=true
 ·cases key <;> simp [Value.formed,Tryz.underlying85] at hf
  rename_i cs;obtain ⟨l⟩:=cs;rw [Qgf] at hf
  match l,hf with
  | [a,b],_=>
   have aa:(Value.agg #[a,b]).formed Tryz.prog 85=true:=by simp [Value.formed,Tryz.underlying85,Qgf]
   rw [if_pos aa] at h
   change Option.map _ (Tryz.prog.keyLits (341 - 1+1+1) 85 [a,b])=_ at h
   rw [QlP] at h
   cases h1:Tryz.prog.keyLits (341 - 1+1) 2 [a] with
   | none=>rw [h1] at h;simp at h
   | some x=>
    cases h2:Tryz.prog.keyLits (341 - 1+1) 9 [b] with
    | none=>rw [h1,h2] at h;simp at h
    | some y=>
     obtain ⟨n,rfl,hn,rfl⟩:=(Qlu _ _ _).1 h1;obtain ⟨s,rfl,hs,rfl⟩:=(QlD _ _ _).1 h2;refine ⟨n,s,rfl,?_,hn,hs⟩;have:=QbB (n:=n) (s:=s) ⟨hn,hs⟩;rw [h0] at this;exact Option.some.inj this
 ·rw [if_neg hf] at h;cases h
theorem Qjo {n n':Int} {s s':ByteArray} (h:QbR n s) (h':QbR n' s') (e:kL n s=kL n' s'):n=n'/\s=s':=by
 have h1:=QbB h;rw [e] at h1;have:=keyC.inj h1 (QbB h');injection this with q;have q:=congrArg Array.toList q;simp at q;exact q
theorem Qn4 {n:Int} {s:ByteArray} (h:QbR n s):WideAt.IsKeyLit (kL n s):=keyC.key (QbB h)
def rA:Value->Option (DataW Value×List MemPlace)
 | .agg cs=>some (.held (.agg cs),[])
 | _=>none
theorem QnD {v:Value} {y:DataW Value×List MemPlace} (h:rA v=some y):∃ cs,v=.agg cs:=by
 cases v <;> simp [rA] at h
 exact ⟨_,rfl⟩
def Qa9 (c d:Ce):Prop:=c.n=d.n/\c.s=d.s
abbrev Qga (c:Ce):DataW Value:=.held (.agg (Qak c.g c.p))
structure HoldsC (D:DataW Value) (L:List Ce):Prop where
 ap:L.Pairwise (fun c d=>¬ Qa9 c d)
 wf:∀ c∈L,QbR c.n c.s
 val:∀ c∈L,∀ z,D.atKey (kL c.n c.s) z=Qga c
 only:∀ n s,QbR n s->Maps.has D (kL n s)=true->∃ c∈L,c.n=n/\c.s=s
 sz:Maps.size D=L.length
theorem HoldsC.nil:HoldsC (.map []) []:=⟨.nil,by simp,by simp,(fun n s _ h=>by simp [Maps.has] at h),rfl⟩
theorem HoldsC.perm {D:DataW Value} {L M:List Ce} (h:HoldsC D L) (p:L.Perm M):HoldsC D M:=
 ⟨(p.pairwise_iff (fun {a b} (q:¬ Qa9 a b)=>fun e=>q ⟨e.1.symm,e.2.symm⟩)).1 h.ap,fun c hc=>h.wf c (p.mem_iff.2 hc),fun c hc=>h.val c (p.mem_iff.2 hc),fun n s k q=>by
  obtain ⟨c,hc,e⟩:=h.only n s k q;exact ⟨c,p.mem_iff.1 hc,e⟩,h.sz.trans p.length_eq⟩
theorem HoldsC.none {D:DataW Value} {L:List Ce} (h:HoldsC D L) {n:Int} {s:ByteArray} (k:QbR n s) (hn:∀ d∈L,¬ (d.n=n/\d.s=s)):Maps.has D (kL n s)=false:=by
 cases q:Maps.has D (kL n s)
 ·rfl
 ·obtain ⟨c,hc,e⟩:=h.only n s k q
  exact absurd e (hn c hc)
theorem HoldsC.some {D:DataW Value} {L:List Ce} (h:HoldsC D L) {c:Ce} (hc:c∈L):Maps.has D (kL c.n c.s)=true:=Maps.has_true_of_atKey (h.val c hc)
theorem HoldsC.put_new {D:DataW Value} {L:List Ce} (h:HoldsC D L) (t:Tidy D) {c:Ce} (k:QbR c.n c.s) (hn:∀ d∈L,¬ Qa9 d c):HoldsC (D.put (kL c.n c.s) (Qga c)) (c :: L):=by
 have hh:=h.none k hn;refine ⟨List.pairwise_cons.2 ⟨fun d hd e=>hn d hd ⟨e.1.symm,e.2.symm⟩,h.ap⟩,fun d hd=>?_,fun d hd z=>?_,fun n s k2 q=>?_,?_⟩
 ·rcases List.mem_cons.1 hd with rfl | hd
  ·exact k
  ·exact h.wf d hd
 ·rcases List.mem_cons.1 hd with rfl | hd
  ·exact atKey_put_same t.isMap (Qn4 k) _ z
  ·rw [atKey_put_other (fun e=>hn d hd (Qjo (h.wf d hd) k e))];exact h.val d hd z
 ·by_cases e:kL n s=kL c.n c.s
  ·obtain ⟨e1,e2⟩:=Qjo k2 k e
   exact ⟨c,by simp,e1.symm,e2.symm⟩
  ·rw [has_put_other e] at q
   obtain ⟨d,hd,e2⟩:=h.only n s k2 q;exact ⟨d,ZZm _ hd,e2⟩
 ·rw [size_put t,hh];simp [h.sz]
theorem HoldsC.put_old {D:DataW Value} {B:List Ce} {c d:Ce} (h:HoldsC D (d :: B)) (t:Tidy D) (e:Qa9 d c):HoldsC (D.put (kL c.n c.s) (Qga c)) (c :: B):=by
 have kd:=h.wf d (by simp);have k:QbR c.n c.s:=by rw [<- e.1,<- e.2];exact kd
 obtain ⟨a1,a2⟩:=List.pairwise_cons.1 h.ap;have hn:∀ x∈B,¬ Qa9 x c:=fun x hx q=>a1 x hx ⟨e.1.trans q.1.symm,e.2.trans q.2.symm⟩;have hh:Maps.has D (kL c.n c.s)=true:=by rw [<- e.1,<- e.2];exact h.some (by simp)
 refine ⟨List.pairwise_cons.2 ⟨fun x hx q=>hn x hx ⟨q.1.symm,q.2.symm⟩,a2⟩,fun x hx=>?_,fun x hx z=>?_,fun n s k2 q=>?_,?_⟩
 ·rcases List.mem_cons.1 hx with rfl | hx
  ·exact k
  ·exact h.wf x (ZZm _ hx)
 ·rcases List.mem_cons.1 hx with rfl | hx
  ·exact atKey_put_same t.isMap (Qn4 k) _ z
  ·rw [atKey_put_other (fun q=>hn x hx (Qjo (h.wf x (List.mem_cons_of_mem _ hx)) k q))];exact h.val x (ZZm _ hx) z
 ·by_cases q2:kL n s=kL c.n c.s
  ·obtain ⟨e1,e2⟩:=Qjo k2 k q2
   exact ⟨c,by simp,e1.symm,e2.symm⟩
  ·rw [has_put_other q2] at q
   obtain ⟨x,hx,e2⟩:=h.only n s k2 q;rcases List.mem_cons.1 hx with rfl | hx
   ·exact absurd (by rw [<- e2.1,<- e2.2,e.1,e.2]) q2
   ·exact ⟨x,ZZm _ hx,e2⟩
 ·rw [size_put t,hh];simp [h.sz]
def MpC (w:World) (b n:Nat) (L:List Ce):Prop:=∃ D:DataW Value,w.ownsMap Tryz.prog 85 rA b n D/\HoldsC D L
theorem MpC.kept {w w':World} {b n:Nat} {L:List Ce} (h:MpC w b n L) {row:Option Nat} (hg:w.grownBy w' row) (hne:Option.some b≠row):MpC w' b n L:=by
 obtain ⟨D,h1,h2⟩:=h;exact ⟨D,h1.kept hg hne,h2⟩
theorem MpC.lt {w:World} {b n:Nat} {L:List Ce} (h:MpC w b n L):b<w.heap.size:=by
 obtain ⟨D,h1,h2⟩:=h;exact h1.lt
theorem MpC.past {w w':World} {b n:Nat} {L:List Ce} (h:MpC w b n L) (hb:Below w.heap.size w w'):MpC w' b n L:=h.kept (row:=Option.none) ⟨hb.os,hb.tape,hb.output,hb.size,fun i hi _=>hb.block i hi⟩ (by simp)
theorem MpC.made (w:World):MpC (w.alloc (.map #[] 0)) w.heap.size 0 []:=⟨_,World.ownsMap_made _ _ _ _,HoldsC.nil⟩
structure RgC (D:DataW Value) (left:Lit->Bool) (L M R:List Ce):Prop where
 p:(M ++ R).Perm L
 no:∀ c∈M,left (kL c.n c.s)=false
 yes:∀ c∈R,left (kL c.n c.s)=true
theorem RgC.start {D:DataW Value} {L:List Ce} (h:HoldsC D L):RgC D (Maps.has D) L [] L:=⟨by simp,by simp,fun c hc=>h.some hc⟩
theorem Qmt {n n':Int} {s s':ByteArray} (h:QbR n s) (h':QbR n' s') (e:¬ (n=n'/\s=s')):(kL n s).sameKey (kL n' s')=false:=sameKey_ne (fun q=>e (Qjo h h' q))
theorem RgC.next {D:DataW Value} {left:Lit->Bool} {L M R:List Ce} (h:RgC D left L M R) (ho:HoldsC D L) {n:Int} {s:ByteArray} (k:QbR n s) (hl:left (kL n s)=true) {d:DataW Value} (hat:∀ z,D.atKey (kL n s) z=d) :
  ∃ c,c.n=n/\c.s=s/\d=Qga c/\∃ R',R.Perm (c :: R')/\RgC D (fun z=>left z && !z.sameKey (kL n s)) L (M ++ [c]) R':=by
 obtain ⟨c,hc,e1,e2⟩:=ho.only n s k (Maps.has_true_of_atKey hat);subst e1;subst e2
 have ae:c∈R:=by
  rcases List.mem_append.1 (h.p.mem_iff.2 hc) with q | q
  ·rw [h.no c q] at hl;cases hl
  ·exact q
 obtain ⟨A,B,rfl⟩:=List.append_of_mem ae;have pr:(A ++ c :: B).Perm (c :: (A ++ B)):=List.perm_middle;refine ⟨c,rfl,rfl,(hat .nil).symm.trans (ho.val c hc .nil),A ++ B,pr,?_,fun x hx=>?_,fun x hx=>?_⟩
 ·refine List.Perm.trans ?_ h.p
  rw [List.append_assoc];exact List.Perm.append_left M pr.symm
 ·rcases List.mem_append.1 hx with q | q
  ·simp [h.no x q]
  ·obtain rfl:x=c:=by simpa using q
   simp [WideAt.sameKey_self (Qn4 k)]
 ·have aa:x∈A ++ c :: B:=by
   rcases List.mem_append.1 hx with q | q <;> simp [q]
  have ab:¬ Qa9 x c:=by
   have ap:=(ho.perm ((h.p.symm).trans (List.Perm.append_left M pr))).ap;have ac:=(List.pairwise_append.1 ap).2.1;exact fun q=>(List.pairwise_cons.1 ac).1 x hx ⟨q.1.symm,q.2.symm⟩
  have ad:x∈L:=h.p.mem_iff.1 (List.mem_append_right _ aa);simp [h.yes x aa,Qmt (ho.wf x ad) k ab]
theorem RgC.done {D:DataW Value} {left:Lit->Bool} {L M R:List Ce} (h:RgC D left L M R) (hl:∀ z,left z=false):M.Perm L:=by
 have:R=[]:=by
  cases R with
  | nil=>rfl
  | cons c R=>have:=h.yes c (by simp);rw [hl] at this;cases this
 have p:=h.p;rw [this,List.append_nil] at p;exact p
def ApC (c d:Ce):Prop:=∀ k,Qdu c.g c.p k->¬ Qdu d.g d.p k
theorem ApC.symm {c d:Ce} (h:ApC c d):ApC d c:=fun k h1 h2=>h k h2 h1
structure CesO (w:World) (B:Nat) (L:List Ce):Prop where
 o:∀ c∈L,AgO w B c.g c.p
 ap:L.Pairwise ApC
theorem CesO.nil (w:World) (B:Nat):CesO w B []:=⟨by simp,.nil⟩
theorem CesO.past {w w':World} {B:Nat} {L:List Ce} (h:CesO w B L) (hb:Below w.heap.size w w'):CesO w' B L:=⟨fun c hc=>(h.o c hc).past hb,h.ap⟩
theorem CesO.le {w:World} {B B':Nat} {L:List Ce} (h:CesO w B L) (hb:B'<=B):CesO w B' L:=⟨fun c hc=>(h.o c hc).le hb,h.ap⟩
theorem CesO.perm {w:World} {B:Nat} {L M:List Ce} (h:CesO w B L) (p:L.Perm M):CesO w B M:=
 ⟨fun c hc=>h.o c (p.mem_iff.2 hc),(p.pairwise_iff (fun {a b} (q:ApC a b)=>q.symm)).1 h.ap⟩
theorem CesO.keptS {w w':World} {B:Nat} {L:List Ce} {S:Nat->Prop} (h:CesO w B L) (hg:GrownS w w' S) (h1:∀ c∈L,∀ k,Qdu c.g c.p k->¬ S k):CesO w' B L:=
 ⟨fun c hc=>(h.o c hc).keptS hg (h1 c hc),h.ap⟩
theorem CesO.grown {w w':World} {B s:Nat} {L:List Ce} (h:CesO w B L) (hg:w.grownBy w' (some s)) (hs:s<B):CesO w' B L:=
 h.keptS (S:=fun k=>k=s) ⟨hg.os,hg.tape,hg.output,hg.size,fun k hk hn=>hg.block k hk (fun e=>hn (by cases e;rfl))⟩ (fun c hc k e q=>by
  have:=((h.o c hc).lt e).1;omega)
theorem CesO.add {w w':World} {B:Nat} {L:List Ce} {c:Ce} (h:CesO w B L) (hb:Below w.heap.size w w') (hB:B<=w.heap.size) (ho:AgO w' w.heap.size c.g c.p):CesO w' B (c :: L):=by
 refine ⟨fun d hd=>?_,List.pairwise_cons.2 ⟨fun d hd k h1 h2=>?_,h.ap⟩⟩
 ·rcases List.mem_cons.1 hd with rfl | hd
  ·exact ho.le hB
  ·exact (h.o d hd).past hb
 ·have k1:=(ho.lt h1).1
  have k2:=((h.o d hd).lt h2).2;omega
theorem CesO.sub {w:World} {B:Nat} {L M:List Ce} (h:CesO w B L) (s:M.Sublist L):CesO w B M:=⟨fun c hc=>h.o c (s.subset hc),h.ap.sublist s⟩
theorem CesO.at {w:World} {B:Nat} {L:List Ce} (h:CesO w B L):∀ c∈L,AgAt w c.g c.p:=fun c hc=>(h.o c hc).at
theorem Qdz {a b c:Ce} (h:cAh a b=true) (k:cAh b c=true):cAh a c=true:=by
 unfold cAh at *;simp only [Bool.or_eq_true,Bool.and_eq_true,decide_eq_true_eq,beq_iff_eq] at *;rcases h with h | ⟨h1,h2⟩ <;> rcases k with k | ⟨k1,k2⟩
 ·exact .inl (by omega)
 ·exact .inl (by omega)
 ·exact .inl (by omega)
 ·exact .inr ⟨by omega,QeO h2 k2⟩
theorem QeC (a:Ce):cAh a a=false:=by
 unfold cAh;simp [QeW]
theorem QeM {a b:Ce} (h:cAh a b=true):cAh b a=false:=by
 cases q:cAh b a
 ·rfl
 ·have:=Qdz h q
  rw [QeC] at this;cases this
theorem Qid {a b:Ce} (h:cAh a b=false) (k:cAh b a=false):Qa9 a b:=by
 unfold cAh at h k;simp only [Bool.or_eq_false_iff,Bool.and_eq_false_iff,decide_eq_false_iff_not,beq_eq_false_iff_ne] at h k;have e:a.n=b.n:=by omega
 refine ⟨e,?_⟩;rcases h.2 with q | q
 ·exact absurd e q
 ·rcases k.2 with q2 | q2
  ·exact absurd e.symm q2
  ·rcases QgJ q with q3 | q3
   ·rw [q3] at q2;cases q2
   ·exact q3
theorem Qf5 {a b:Ce} (h:cAh a b=true):¬ Qa9 a b:=by
 rintro ⟨e1,e2⟩;unfold cAh at h;rw [e1,e2] at h;simp [QeW] at h
def AscC (L:List Ce):Prop:=L.Pairwise (fun c d=>cAh c d=true)
theorem AscC.ap {L:List Ce} (h:AscC L):L.Pairwise (fun c d=>¬ Qa9 c d):=h.imp Qf5
theorem QjX:∀ {L:List Ce} {b:Option Ce},cRs b L=true->(∀ c∈L,cRi c=true)/\AscC L/\(∀ b',b=some b'->∀ c∈L,cAh b' c=true)
 | [],b,_=>⟨by simp,.nil,by simp⟩
 | c :: L,none,h=>by
  unfold cRs at h;simp only [Bool.and_eq_true] at h;obtain ⟨h1,h2,h3⟩:=QjX h.2;refine ⟨fun d hd=>?_,List.pairwise_cons.2 ⟨h3 c rfl,h2⟩,fun b' e=>by cases e⟩;rcases List.mem_cons.1 hd with rfl | hd
  ·exact h.1
  ·exact h1 d hd
 | c :: L,some b,h=>by
  unfold cRs at h;simp only [Bool.and_eq_true] at h;obtain ⟨h1,h2,h3⟩:=QjX h.2;refine ⟨fun d hd=>?_,List.pairwise_cons.2 ⟨h3 c rfl,h2⟩,fun b' e d hd=>?_⟩
  ·rcases List.mem_cons.1 hd with rfl | hd
   ·exact h.1.1
   ·exact h1 d hd
  ·cases e
   rcases List.mem_cons.1 hd with rfl | hd
   ·exact h.1.2
   ·exact Qdz h.1.2 (h3 c rfl d hd)
theorem Qj1:∀ {L:List Ce} {b:Option Ce},(∀ c∈L,cRi c=true)->AscC L->(∀ b',b=some b'->∀ c∈L,cAh b' c=true)->cRs b L=true
 | [],b,_,_,_=>by cases b <;> rfl
 | c :: L,none,h1,h2,h3=>by
  obtain ⟨q1,q2⟩:=List.pairwise_cons.1 h2;unfold cRs;rw [h1 c (by simp),Qj1 (fun d hd=>h1 d (List.mem_cons_of_mem _ hd)) q2 (fun b' e d hd=>by cases e;exact q1 d hd)]
  rfl
 | c :: L,some b,h1,h2,h3=>by
  obtain ⟨q1,q2⟩:=List.pairwise_cons.1 h2;unfold cRs;rw [h1 c (by simp),h3 b rfl c (by simp),Qj1 (fun d hd=>h1 d (List.mem_cons_of_mem _ hd)) q2 (fun b' e d hd=>by cases e;exact q1 d hd)]
  rfl
theorem csR_iff {L:List Ce}:csR L=true↔L.length<=60/\(∀ c∈L,cRi c=true)/\AscC L:=by
 unfold csR;simp only [Bool.and_eq_true,decide_eq_true_eq];constructor
 ·rintro ⟨h1,h2⟩
  obtain ⟨q1,q2,_⟩:=QjX h2;exact ⟨h1,q1,q2⟩
 ·rintro ⟨h1,h2,h3⟩
  exact ⟨h1,Qj1 h2 h3 (by simp)⟩
theorem QmJ:∀ {L M:List Ce},AscC L->AscC M->L.Perm M->L=M
 | [],M,_,_,p=>by
  have:=p.length_eq
  cases M with
  | nil=>rfl
  | cons _ _=>simp at this
 | c :: L,M,h,k,p=>by
  cases M with
  | nil=>have:=p.length_eq;simp at this
  | cons d M=>
   obtain ⟨h1,h2⟩:=List.pairwise_cons.1 h;obtain ⟨k1,k2⟩:=List.pairwise_cons.1 k
   have e:c=d:=by
    rcases List.mem_cons.1 (p.mem_iff.1 (List.mem_cons_self (a:=c) (l:=L))) with e | e
    ·exact e
    ·rcases List.mem_cons.1 (p.mem_iff.2 (List.mem_cons_self (a:=d) (l:=M))) with e2 | e2
     ·exact e2.symm
     ·have q1:=k1 c e
      have q2:=h1 d e2;rw [QeM q1] at q2;cases q2
   subst e;rw [QmJ h2 k2 ((List.perm_cons _).1 p)]
def cfC (c d:Ce):Int:=QnC c.n c.s d.n d.s
theorem Qp6 (c d:Ce):decide (cfC c d<0)=cAh c d:=by
 have h:=QmI c d;unfold cfC
 cases q:cAh c d
 ·rw [q] at h
  have:0<=QnC c.n c.s d.n d.s:=by simpa using h
  simp;omega
 ·rw [q] at h
  have:¬ 0<=QnC c.n c.s d.n d.s:=by simpa using h
  simp;omega
instance inhCe:Inhabited Ce:=⟨⟨0,⟨#[]⟩,QbQ,⟨none,0,none,0,none,0,none,0⟩⟩⟩
theorem Qiq {d:Array Ce} (h:Sort.SortedIn (fun x y=>decide (cfC x y<0)) 0 d.size d) (hp:d.toList.Pairwise (fun c e=>¬ Qa9 c e)):AscC d.toList:=by
 refine List.pairwise_iff_getElem.2 (fun i j hi hj hij=>?_);have h1:cAh d[j]! d[i]! = false:=by rw [<- Qp6];exact h i j (Nat.zero_le _) hij (by simpa using hj)
 have ab:i<d.size:=by simpa using hi
 have ac:j<d.size:=by simpa using hj
 rw [getElem!_pos d i ab,getElem!_pos d j ac] at h1;have aa:=(List.pairwise_iff_getElem.1 hp) i j hi hj hij;simp only [Array.getElem_toList] at aa ⊢
 cases q:cAh d[i] d[j]
 ·exact absurd (Qid q h1) aa
 ·rfl
def ceL (c:Ce):List Value:=(Qap c).toList
theorem QcC (c:Ce):(ceL c).length=15:=rfl
theorem Qdi (c:Ce):∀ v∈ceL c,v.oneCell'=true:=by
 intro v hv;simp [ceL] at hv;rcases hv with rfl | rfl | rfl | rfl | rfl | rfl | rfl | rfl | rfl | rfl | rfl | rfl | rfl | rfl | rfl <;> rfl
end Go.Proofs.YtandnmpllheniaaGreatDoor
namespace Go.Proofs.YtandnmpllheniaaGreatDoor
open Go.ChangeShapes Go.WideShapes Go.ChangeAt Go.RowKit Go.PlainAid Go.Lib Go.Shelf
open Go.Sort hiding Below
def flC (xs:List Ce):List Value:=xs.flatMap ceL
theorem QeI (xs ys:List Ce):flC (xs ++ ys)=flC xs ++ flC ys:=by simp [flC]
theorem QiH (x:Ce):flC [x]=ceL x:=by simp [flC]
theorem Qcn (x:Ce) (xs:List Ce):flC (x :: xs)=ceL x ++ flC xs:=by simp [flC]
theorem QbM:∀ xs:List Ce,(flC xs).length=xs.length*15
 | []=>rfl
 | x :: xs=>by rw [Qcn,List.length_append,QcC,QbM xs,List.length_cons];omega
theorem QkV:∀ (xs:List Ce) (i:Nat) (x:Ce) (c:Nat),c<15->xs[i]?=some x->(flC xs)[i*15+c]?=(ceL x)[c]?
 | [],i,x,c,hc,h=>by simp at h
 | y :: xs,0,x,c,hc,h=>by
  obtain rfl:y=x:=by simpa using h
  rw [Qcn,List.getElem?_append_left (by rw [QcC];omega),Nat.zero_mul,Nat.zero_add]
 | y :: xs,i+1,x,c,hc,h=>by
  rw [Qcn,List.getElem?_append_right (by rw [QcC];omega),QcC,show (i+1)*15+c - 15=i*15+c by omega];exact QkV xs i x c hc (by simpa using h)
def OwnC (w:World) (B:Nat) (v:Value) (L:List Ce):Prop:=w.ownsRow B 51 15 v L.length (flC L)
theorem OwnC.nil (w:World) (B:Nat):OwnC w B (.slice none 0 0) []:=World.ownsRow_nil _ _ _ _
theorem OwnC.past {w w':World} {B:Nat} {v:Value} {L:List Ce} (h:OwnC w B v L) (hb:Below w.heap.size w w'):OwnC w' B v L:=
 World.ownsRow.kept (row:=none) h ⟨hb.os,hb.tape,hb.output,hb.size,fun i hi _=>hb.block i hi⟩ (by cases v.ownBlock <;> simp)
theorem OwnC.le {w:World} {B B':Nat} {v:Value} {L:List Ce} (h:OwnC w B v L) (hb:B'<=B):OwnC w B' v L:=by
 refine ⟨h.1,?_⟩;rcases h.2 with q | ⟨g,ab,aa,e,q1,q2⟩
 ·exact .inl q
 ·exact .inr ⟨g,ab,aa,e,Nat.le_trans hb q1,q2⟩
theorem OwnC.form {w:World} {B:Nat} {v:Value} {L:List Ce} (h:OwnC w B v L):∃ ao cp,v=.slice ao L.length cp/\(ao=none->cp=0):=by
 rcases h.2 with ⟨e,q⟩ | ⟨g,aa,ab,e,q1,q2⟩
 ·exact ⟨none,0,by rw [q];exact e,fun _=>rfl⟩
 ·exact ⟨_,aa,e,fun h=>by cases h⟩
theorem QdJ {w:World} {B g cp:Nat} {L:List Ce} (h:OwnC w B (.slice (some ⟨g,0,none⟩) L.length cp) L) {i:Nat} {c:Ce} (hc:L[i]?=some c):Qcg w g (0+i*15) c:=by
 have hi:=(ZZd.1 hc).1
 have q:∀ j v,j<15->(ceL c)[j]?=some v->w.cell? ⟨g,0+i*15+j,none⟩=some v:=fun j v hj e=>by
  rw [Nat.zero_add,World.ownsRow.cellAt h (i*15+j) (by omega),QkV L i c j hj hc];exact e
 exact ⟨q 0 _ (by omega) rfl,q 1 _ (by omega) rfl,q 2 _ (by omega) rfl,q 3 _ (by omega) rfl,q 4 _ (by omega) rfl,q 5 _ (by omega) rfl,q 6 _ (by omega) rfl,q 7 _ (by omega) rfl,q 8 _ (by omega) rfl,q 9 _ (by omega) rfl,q 10 _ (by omega) rfl,q 11 _ (by omega) rfl,q 12 _ (by omega) rfl,q 13 _ (by omega) rfl,q 14 _ (by omega) rfl⟩
theorem OwnC.at {w:World} {B n cp:Nat} {ao:Option Addr} {L:List Ce} (h:OwnC w B (.slice ao n cp) L) (hg:∀ c∈L,AgAt w c.g c.p):Qb7 w ao L:=by
 refine ⟨fun h0=>?_,hg⟩;rcases h.2 with ⟨e,q⟩ | ⟨g,ab,aa,e,q1,q2⟩
 ·omega
 ·injection e with e1 e2 e3
  subst e1;subst e2;subst e3;exact ⟨g,0,rfl,fun i c hc=>QdJ h hc⟩
theorem Qla {w:World} {B g cp:Nat} {xs:List Ce} (h:OwnC w B (.slice (some ⟨g,0,none⟩) xs.length cp) xs):HoldsK ceL 15 w g 0 xs.toArray:=by
 intro j hj;have aa:j<xs.length*15:=by simpa using hj
 rw [Nat.zero_add];refine ⟨?_,World.ownsRow.frozenAt h j⟩;rw [World.ownsRow.cellAt h j aa,get_flatK _ _ _ _ (by simpa using aa)];have hi:j / 15<xs.length:=by omega
 obtain ⟨x,hx⟩:∃ x,xs[j / 15]?=some x:=⟨_,ZZe hi⟩;have h1:=QkV xs (j / 15) x (j % 15) (by omega) hx;rw [show j / 15*15+j % 15=j by omega] at h1
 have h2:xs.toArray[j / 15]! = x:=by
  have:=(ZZd.1 hx).2;simp [hi,this]
 rw [h1,h2];have hm:j % 15<(ceL x).length:=by rw [QcC];omega
 simp [hm]
theorem Qj7 (w:World) (g o n:Nat) (d:Array Ce) (os:Array Obj):w.grownBy (sortWorldK ceL 15 w g o n d os) (some g):=by
 refine ⟨rfl,rfl,rfl,size_sortWorldK_c _ _ _ _ _ _ _ _,fun j hj hne=>?_⟩;unfold sortWorldK;rw [heap_grow_old _ _ (by rw [size_putRowK];exact hj)];have:g≠j:=fun e=>hne (by rw [e]);simp [putRowK,putRow,mapBlock,Sort.ahead,Array.getElem?_modify,this]
theorem QjK {α:Type} [Inhabited α] (enc:α->Value) (off:Nat) (d:Array α) (c:Array Value):(putCells enc off d c).size=c.size:=by
 unfold putCells;simp
theorem Qpp {w:World} {B g cp n:Nat} {L:List Ce} {d:Array Ce} {os:Array Obj} (h:OwnC w B (.slice (some ⟨g,0,none⟩) L.length cp) L) (hd:d.size=L.length) (hs:g<w.heap.size) :
  OwnC (sortWorldK ceL 15 w g 0 n d os) B (.slice (some ⟨g,0,none⟩) d.toList.length cp) d.toList:=by
 have hH:=Qla h;have ad:HoldsK ceL 15 (sortWorldK ceL 15 w g 0 n d os) g 0 d:=holdsK_sortWorldK_c _ _ _ _ _ _ d _ _ hH hs (by simp [hd]);rcases h.2 with ⟨e,q⟩ | ⟨g',af,aa,e,q1,q2,q3,q4,q5,q6⟩
 ·cases e
 ·injection e with e1 e2 e3
  injection e1 with e1;injection e1 with e1;subst e1;subst e3
  have hb:(sortWorldK ceL 15 w g 0 n d os).heap[g]?=some (.cells (putCells id 0 (flatK ceL 15 d) aa) 51 (0,0)):=by
   unfold sortWorldK;rw [heap_grow_old _ _ (by rw [size_putRowK];exact hs)];simp [putRowK,putRow,mapBlock,Sort.ahead,Array.getElem?_modify,q2,onCells]
  have hl:d.toList.length=L.length:=by simpa using hd
  refine ⟨by rw [QbM],.inr ⟨g,cp,_,rfl,q1,hb,by omega,q4,by rw [QjK,q5],?_⟩⟩;have ac:d.size*15<=(putCells id 0 (flatK ceL 15 d) aa).size:=by rw [QjK,q5,hd];exact Nat.mul_le_mul_right _ q3
  apply List.ext_getElem?;intro j;by_cases hj:j<d.toList.length*15
  ·rw [List.getElem?_take_of_lt hj]
   have ab:j<d.size*15:=by simpa using hj
   have k:=(ad j (by simpa using ab)).1;rw [Nat.zero_add,cell_of_row _ _ _ _ _ (0,0) hb,get_flatK _ _ _ _ ab] at k;have hi:j / 15<d.toList.length:=by omega
   obtain ⟨x,hx⟩:∃ x,d.toList[j / 15]?=some x:=⟨_,ZZe hi⟩;have h1:=QkV d.toList (j / 15) x (j % 15) (by omega) hx;rw [show j / 15*15+j % 15=j by omega] at h1;have ae:j / 15<d.size:=by simpa using hi
   have h2:d[j / 15]! = x:=by
    have:=(ZZd.1 hx).2;rw [getElem!_pos d _ ae]
    simpa using this
   rw [h2] at k;rw [Array.getElem?_toList,k,h1];have hm:j % 15<(ceL x).length:=by rw [QcC];omega
   simp [hm]
  ·rw [List.getElem?_eq_none (by simp;omega),List.getElem?_eq_none (by rw [QbM];omega)]
end Go.Proofs.YtandnmpllheniaaGreatDoor
