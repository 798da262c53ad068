/-
  Cells in maps, cells taken (ShardTake of the program, l08Take of the model): a part of other texts, for the pipes.
-/
import Derived.Test.YtmjogablacnlgaaGreatDoorOZK
namespace Go.Proofs.YtmjogablacnlgaaGreatDoor
set_option linter.unusedVariables false
set_option linter.unusedSimpArgs false
section
open Go.ChangeShapes Go.WideShapes Go.ChangeAt Go.RowKit Go.PlainAid Go.Lib Go.Maps
set_option maxRecDepth 10000
abbrev keyV (n:Int) (s:ByteArray):Value:=.agg #[.int .i64 n,.string s]
def kL (n:Int) (s:ByteArray):Lit:=.string (keyBytes [.int .i64 n,.string s.data.toList])
def KeyOk (n:Int) (s:ByteArray):Prop:=I64 n∧s.size≤maxLen
theorem laidC:laidOutB Tryz.prog=true:=by kernel_rfl
theorem keyRow:(152:TypeId)<Tryz.prog.types.size:=of_decide_eq_true (by kernel_rfl)
theorem keyC:Keyed Tryz.prog 152:=Keyed.of_law (deep_law_laid laidC (m:=2) (by omega) keyRow (by kernel_rfl) (by kernel_rfl))
theorem keyTy:Tryz.prog.keyType 152=true:=by kernel_rfl
theorem keyCells:Tryz.prog.cellsOf 152=2:=by kernel_rfl
theorem cellsI:Tryz.prog.cellsOf 2=1:=by kernel_rfl
theorem cellsS:Tryz.prog.cellsOf 9=1:=by kernel_rfl
theorem typesN:Tryz.prog.types.size+1=(343 - 1)+1+1:=by kernel_rfl
theorem wfI64 {n:Int} (h:I64 n):(Lit.int .i64 n).wf=true:=by
  unfold I64 at h;simp [Lit.wf,IntKind.signed,IntKind.bits,IntKind.min,IntKind.max];omega
theorem I64_of_wf {n:Int} (h:(Lit.int .i64 n).wf=true):I64 n:=by
  unfold I64;simp [Lit.wf,IntKind.signed,IntKind.bits,IntKind.min,IntKind.max] at h;omega
theorem lits_two (d:Nat) (a b:Value):Tryz.prog.keyLits (d+1+1) 152 [a,b]=(Tryz.prog.keyLits (d+1) 2 [a]).bind fun x=>(Tryz.prog.keyLits (d+1) 9 [b]).map fun y=>x ++ y:=by
  conv=>lhs;unfold Program.keyLits
  simp only [Tryz.underlying152,keyCells];simp [cellsI,cellsS]
  cases Tryz.prog.keyLits (d+1) 2 [a] <;> cases Tryz.prog.keyLits (d+1) 9 [b] <;> simp
theorem lits_int (d:Nat) (a:Value) (l:List Lit):Tryz.prog.keyLits (d+1) 2 [a]=some l↔∃ n,a=.int .i64 n∧I64 n∧l=[.int .i64 n]:=by
  unfold Program.keyLits;simp only [Tryz.underlying2];constructor
  · intro h
    cases a <;> simp at h
    obtain ⟨⟨rfl,hw⟩,rfl⟩:=h;exact ⟨_,rfl,I64_of_wf hw,rfl⟩
  · rintro ⟨n,rfl,hn,rfl⟩
    simp [wfI64 hn]
theorem lits_str (d:Nat) (a:Value) (l:List Lit):Tryz.prog.keyLits (d+1) 9 [a]=some l↔∃ s,a=.string s∧s.size≤maxLen∧l=[.string s.data.toList]:=by
  unfold Program.keyLits;simp only [Tryz.underlying9];constructor
  · intro h
    cases a <;> simp at h
    obtain ⟨hw,rfl⟩:=h;exact ⟨_,rfl,hw,rfl⟩
  · rintro ⟨s,rfl,hs,rfl⟩
    simp [hs]
theorem keyOf_cell {n:Int} {s:ByteArray} (h:KeyOk n s):keyOf Tryz.prog 152 (keyV n s)=some (kL n s):=by
  have h1:=(lits_int (343 - 1) (.int .i64 n) _).2 ⟨n,rfl,h.1,rfl⟩;have h2:=(lits_str (343 - 1) (.string s) _).2 ⟨s,rfl,h.2,rfl⟩;have h3:=lits_two (343 - 1) (.int .i64 n) (.string s);rw [h1,h2] at h3;have hf:(keyV n s).formed Tryz.prog 152=true:=by simp [Value.formed,Tryz.underlying152,keyCells]
  unfold keyOf;simp only [Tryz.underlying152,keyTy,hf,Bool.and_self,if_true,typesN]
  show Option.map _ (Tryz.prog.keyLits (343 - 1+1+1) 152 [.int .i64 n,.string s])=_
  rw [h3]
  rfl
theorem keyOf_inv {key:Value} {kl:Lit} (h:keyOf Tryz.prog 152 key=some kl):∃ n s,key=keyV n s∧kl=kL n s∧KeyOk n s:=by
  have h0:=h;unfold keyOf at h;simp only [Tryz.underlying152,keyTy,Bool.true_and,typesN] at h;by_cases hf:key.formed Tryz.prog 152=true
  · cases key <;> simp [Value.formed,Tryz.underlying152] at hf
    rename_i cs;obtain ⟨l⟩:=cs;rw [keyCells] at hf
    match l,hf with
    | [a,b],_=>
      have hf':(Value.agg #[a,b]).formed Tryz.prog 152=true:=by simp [Value.formed,Tryz.underlying152,keyCells]
      rw [if_pos hf'] at h
      change Option.map _ (Tryz.prog.keyLits (343 - 1+1+1) 152 [a,b])=_ at h
      rw [lits_two] at h
      cases h1:Tryz.prog.keyLits (343 - 1+1) 2 [a] with
      | none=>rw [h1] at h;simp at h
      | some x=>
        cases h2:Tryz.prog.keyLits (343 - 1+1) 9 [b] with
        | none=>rw [h1,h2] at h;simp at h
        | some y=>
          obtain ⟨n,rfl,hn,rfl⟩:=(lits_int _ _ _).1 h1;obtain ⟨s,rfl,hs,rfl⟩:=(lits_str _ _ _).1 h2;refine ⟨n,s,rfl,?_,hn,hs⟩;have:=keyOf_cell (n:=n) (s:=s) ⟨hn,hs⟩;rw [h0] at this;exact Option.some.inj this
  · rw [if_neg hf] at h;cases h
theorem kL_inj {n n':Int} {s s':ByteArray} (h:KeyOk n s) (h':KeyOk n' s') (e:kL n s=kL n' s'):n=n'∧s=s':=by
  have h1:=keyOf_cell h;rw [e] at h1;have:=keyC.inj h1 (keyOf_cell h');injection this with q;have q:=congrArg Array.toList q;simp at q;exact q
theorem kL_key {n:Int} {s:ByteArray} (h:KeyOk n s):WideAt.IsKeyLit (kL n s):=keyC.key (keyOf_cell h)
def rA:Value→Option (DataW Value×List MemPlace)
  | .agg cs=>some (.held (.agg cs),[])
  | _=>none
theorem rA_inv {v:Value} {y:DataW Value×List MemPlace} (h:rA v=some y):∃ cs,v=.agg cs:=by
  cases v <;> simp [rA] at h
  exact ⟨_,rfl⟩
abbrev heldC (c:Ce):DataW Value:=.held (.agg (agArr c.g c.p))
structure HoldsC (D:DataW Value) (L:List Ce):Prop where
  ap:L.Pairwise (fun c d=>¬ SameKey c d)
  wf:∀ c∈L,KeyOk c.n c.s
  val:∀ c∈L,∀ z,D.atKey (kL c.n c.s) z=heldC c
  only:∀ n s,KeyOk n s→Maps.has D (kL n s)=true→∃ c∈L,c.n=n∧c.s=s
  sz:Maps.size D=L.length
theorem HoldsC.nil:HoldsC (.map []) []:=⟨.nil,by simp,by simp,(fun n s _ h=>by simp [Maps.has] at h),rfl⟩
theorem HoldsC.perm {D:DataW Value} {L M:List Ce} (h:HoldsC D L) (p:L.Perm M):HoldsC D M:=
  ⟨(p.pairwise_iff (fun {a b} (q:¬ SameKey a b)=>fun e=>q ⟨e.1.symm,e.2.symm⟩)).1 h.ap,fun c hc=>h.wf c (p.mem_iff.2 hc),fun c hc=>h.val c (p.mem_iff.2 hc),fun n s k q=>by
    obtain ⟨c,hc,e⟩:=h.only n s k q;exact ⟨c,p.mem_iff.1 hc,e⟩,h.sz.trans p.length_eq⟩
theorem HoldsC.none {D:DataW Value} {L:List Ce} (h:HoldsC D L) {n:Int} {s:ByteArray} (k:KeyOk n s) (hn:∀ d∈L,¬ (d.n=n∧d.s=s)):Maps.has D (kL n s)=false:=by
  cases q:Maps.has D (kL n s)
  · rfl
  · obtain ⟨c,hc,e⟩:=h.only n s k q
    exact absurd e (hn c hc)
theorem HoldsC.some {D:DataW Value} {L:List Ce} (h:HoldsC D L) {c:Ce} (hc:c∈L):Maps.has D (kL c.n c.s)=true:=Maps.has_true_of_atKey (h.val c hc)
theorem HoldsC.put_new {D:DataW Value} {L:List Ce} (h:HoldsC D L) (t:Tidy D) {c:Ce} (k:KeyOk c.n c.s) (hn:∀ d∈L,¬ SameKey d c):HoldsC (D.put (kL c.n c.s) (heldC c)) (c :: L):=by
  have hh:=h.none k hn;refine ⟨List.pairwise_cons.2 ⟨fun d hd e=>hn d hd ⟨e.1.symm,e.2.symm⟩,h.ap⟩,fun d hd=>?_,fun d hd z=>?_,fun n s k2 q=>?_,?_⟩
  · rcases List.mem_cons.1 hd with rfl | hd
    · exact k
    · exact h.wf d hd
  · rcases List.mem_cons.1 hd with rfl | hd
    · exact atKey_put_same t.isMap (kL_key k) _ z
    · rw [atKey_put_other (fun e=>hn d hd (kL_inj (h.wf d hd) k e))];exact h.val d hd z
  · by_cases e:kL n s=kL c.n c.s
    · obtain ⟨e1,e2⟩:=kL_inj k2 k e
      exact ⟨c,by simp,e1.symm,e2.symm⟩
    · rw [has_put_other e] at q
      obtain ⟨d,hd,e2⟩:=h.only n s k2 q;exact ⟨d,List.mem_cons_of_mem _ hd,e2⟩
  · rw [size_put t,hh];simp [h.sz]
theorem HoldsC.del {D:DataW Value} {B:List Ce} {c:Ce} (h:HoldsC D (c :: B)) (t:Tidy D):HoldsC (D.del (kL c.n c.s)) B:=by
  have k:=h.wf c (by simp);obtain ⟨a1,a2⟩:=List.pairwise_cons.1 h.ap;refine ⟨a2,fun x hx=>h.wf x (List.mem_cons_of_mem _ hx),fun x hx z=>?_,fun n s k2 q=>?_,?_⟩
  · rw [atKey_del_other (fun q=>a1 x hx (by obtain ⟨e1,e2⟩:=kL_inj (h.wf x (List.mem_cons_of_mem _ hx)) k q;exact ⟨e1.symm,e2.symm⟩))];exact h.val x (List.mem_cons_of_mem _ hx) z
  · by_cases q2:kL n s=kL c.n c.s
    · rw [q2,has_del_same] at q;cases q
    · rw [has_del_other q2] at q
      obtain ⟨x,hx,e2⟩:=h.only n s k2 q;rcases List.mem_cons.1 hx with rfl | hx
      · exact absurd (by rw [← e2.1,← e2.2]) q2
      · exact ⟨x,hx,e2⟩
  · have hh:=h.some (c:=c) (by simp)
    have:=size_del (k:=kL c.n c.s) t;rw [hh,if_pos rfl,h.sz] at this
    simpa using this
def MpC (w:World) (b n:Nat) (L:List Ce):Prop:=∃ D:DataW Value,w.ownsMap Tryz.prog 152 rA b n D∧HoldsC D L
theorem MpC.perm {w:World} {b n:Nat} {L M:List Ce} (h:MpC w b n L) (p:L.Perm M):MpC w b n M:=by
  obtain ⟨D,h1,h2⟩:=h;exact ⟨D,h1,h2.perm p⟩
theorem MpC.kept {w w':World} {b n:Nat} {L:List Ce} (h:MpC w b n L) {row:Option Nat} (hg:w.grownBy w' row) (hne:Option.some b≠row):MpC w' b n L:=by
  obtain ⟨D,h1,h2⟩:=h;exact ⟨D,h1.kept hg hne,h2⟩
theorem MpC.lt {w:World} {b n:Nat} {L:List Ce} (h:MpC w b n L):b<w.heap.size:=by
  obtain ⟨D,h1,h2⟩:=h;exact h1.lt
theorem MpC.past {w w':World} {b n:Nat} {L:List Ce} (h:MpC w b n L) (hb:Below w.heap.size w w'):MpC w' b n L:=h.kept (row:=Option.none) ⟨hb.os,hb.tape,hb.output,hb.size,fun i hi _=>hb.block i hi⟩ (by simp)
theorem MpC.made (w:World):MpC (w.alloc (.map #[] 0)) w.heap.size 0 []:=⟨_,World.ownsMap_made _ _ _ _,HoldsC.nil⟩
structure RgC (D:DataW Value) (left:Lit→Bool) (L M R:List Ce):Prop where
  p:(M ++ R).Perm L
  no:∀ c∈M,left (kL c.n c.s)=false
  yes:∀ c∈R,left (kL c.n c.s)=true
theorem RgC.start {D:DataW Value} {L:List Ce} (h:HoldsC D L):RgC D (Maps.has D) L [] L:=⟨by simp,by simp,fun c hc=>h.some hc⟩
theorem sameKey_kL {n n':Int} {s s':ByteArray} (h:KeyOk n s) (h':KeyOk n' s') (e:¬ (n=n'∧s=s')):(kL n s).sameKey (kL n' s')=false:=sameKey_ne (fun q=>e (kL_inj h h' q))
theorem RgC.next {D:DataW Value} {left:Lit→Bool} {L M R:List Ce} (h:RgC D left L M R) (ho:HoldsC D L) {n:Int} {s:ByteArray} (k:KeyOk n s) (hl:left (kL n s)=true) {d:DataW Value} (hat:∀ z,D.atKey (kL n s) z=d) :
    ∃ c,c.n=n∧c.s=s∧d=heldC c∧∃ R',R.Perm (c :: R')∧RgC D (fun z=>left z && !z.sameKey (kL n s)) L (M ++ [c]) R':=by
  obtain ⟨c,hc,e1,e2⟩:=ho.only n s k (Maps.has_true_of_atKey hat);subst e1;subst e2
  have hcR:c∈R:=by
    rcases List.mem_append.1 (h.p.mem_iff.2 hc) with q | q
    · rw [h.no c q] at hl;cases hl
    · exact q
  obtain ⟨A,B,rfl⟩:=List.append_of_mem hcR;have pr:(A ++ c :: B).Perm (c :: (A ++ B)):=List.perm_middle;refine ⟨c,rfl,rfl,(hat .nil).symm.trans (ho.val c hc .nil),A ++ B,pr,?_,fun x hx=>?_,fun x hx=>?_⟩
  · refine List.Perm.trans ?_ h.p
    rw [List.append_assoc];exact List.Perm.append_left M pr.symm
  · rcases List.mem_append.1 hx with q | q
    · simp [h.no x q]
    · obtain rfl:x=c:=by simpa using q
      simp [WideAt.sameKey_self (kL_key k)]
  · have hx2:x∈A ++ c :: B:=by
      rcases List.mem_append.1 hx with q | q <;> simp [q]
    have hne:¬ SameKey x c:=by
      have ap:=(ho.perm ((h.p.symm).trans (List.Perm.append_left M pr))).ap;have ap2:=(List.pairwise_append.1 ap).2.1;exact fun q=>(List.pairwise_cons.1 ap2).1 x hx ⟨q.1.symm,q.2.symm⟩
    have hxL:x∈L:=h.p.mem_iff.1 (List.mem_append_right _ hx2);simp [h.yes x hx2,sameKey_kL (ho.wf x hxL) k hne]
theorem RgC.done {D:DataW Value} {left:Lit→Bool} {L M R:List Ce} (h:RgC D left L M R) (hl:∀ z,left z=false):M.Perm L:=by
  have:R=[]:=by
    cases R with
    | nil=>rfl
    | cons c R=>have:=h.yes c (by simp);rw [hl] at this;cases this
  have p:=h.p;rw [this,List.append_nil] at p;exact p
end
section
open Go.ChangeShapes Go.WideShapes Go.ChangeAt Go.RowKit Go.PlainAid Go.Lib Go.Shelf Go.Maps
open Go.Sort hiding Below
set_option maxRecDepth 10000
def LiI (w:World) (b:Nat) (L:List Ce) (v:Value) (wr:World):Prop:=
  ∃ (D:DataW Value) (left:Lit→Bool) (cnt n:Nat) (M R:List Ce),wr.ranges Tryz.prog 152 rA b w.heap.size n D left cnt∧HoldsC D L∧RgC D left L M R∧OwnC wr (w.heap.size+1) v M∧Below w.heap.size w wr
theorem keyV_inj {n n':Int} {s s':ByteArray} (h:keyV n s=keyV n' s'):n=n'∧s=s':=by
  injection h with q;have q:=congrArg Array.toList q;simp at q;exact q
theorem held_inj {cs:Array Value} {c:Ce} (h:(DataW.held (Value.agg cs):DataW Value)=heldC c):cs=agArr c.g c.p:=by
  injection h with q;injection q
theorem box_ka (w:World) (n:Int) (s:ByteArray) (g:Ag) (p:Pl):Hid (Below w.heap.size w ((w.alloc (.cells #[.int .i64 n,.string s] 152)).alloc (.cells (agArr g p) 67)))∧Hid (((w.alloc (.cells #[.int .i64 n,.string s] 152)).alloc (.cells (agArr g p) 67)).heap[w.heap.size]?=some (.cells #[.int .i64 n,.string s] 152 (0,0)))∧Hid (((w.alloc (.cells #[.int .i64 n,.string s] 152)).alloc (.cells (agArr g p) 67)).heap[w.heap.size+1]?=some (.cells (agArr g p) 67 (0,0))):=by
  have a1:∀ (X:World) o,Below X.heap.size X (X.alloc o):=fun X o=>(Below.refl _ _).alloc (Nat.le_refl _) _;have k0:=heap_alloc_new w (.cells #[.int .i64 n,.string s] 152);have k1:=heap_alloc_new (w.alloc (.cells #[.int .i64 n,.string s] 152)) (.cells (agArr g p) 67);simp only [World.size_alloc] at k1;exact ⟨hide (chain (a1 _ _) (a1 _ _)),hide (((a1 _ _).block _ (by simp)).trans k0),hide k1⟩
theorem keyInvC (key:Value) (kl:Lit) (h:keyOf Tryz.prog 152 key=some kl):∃ x:Int×ByteArray,key=keyV x.1 x.2:=by
  obtain ⟨n,s,e,_⟩:=keyOf_inv h;exact ⟨(n,s),e⟩
theorem step_list {w wr w2:World} {b n cnt cnt2:Nat} {D:DataW Value} {left left':Lit→Bool} {L M R R':List Ce} {u:Value} {c:Ce} (hrg:wr.ranges Tryz.prog 152 rA b w.heap.size n D left cnt) (hho:HoldsC D L) (hbs:b<w.heap.size) (how:OwnC wr (w.heap.size+1) u M) (hbl:Below w.heap.size w wr) (lL:L.length≤1048576)
    (hrc:RgC D left L M R) (hrc':RgC D left' L (M ++ [c]) R') (hrg2:w2.ranges Tryz.prog 152 rA b w.heap.size n D left' cnt2) (hlt:cnt2<cnt) (hg2:wr.grownBy w2 (some w.heap.size)) (W3:World) (hb3:Below w2.heap.size w2 W3) :
    OwnC W3 (w.heap.size+1) u M∧M.length≤1048576∧w.heap.size+1≤W3.heap.size∧∀ v' w1 T,T=69→w1.ownsRow (w.heap.size+1) T 15 v' (M.length+1) (flC M ++ ceL c)→(W3.alloc (.cells (ceArr c) T)).grownBy w1 u.ownBlock→LiI w b L v' w1∧w1.rangeLeft b w.heap.size<wr.rangeLeft b w.heap.size:=by
  have o2:OwnC w2 (w.heap.size+1) u M:=World.ownsRow.kept how hg2 (by
    cases q:u.ownBlock with
    | none=>exact .inl rfl
    | some j=>exact .inr (fun e=>by
        have:=(World.ownsRow.lt how j q).1;injection e with e;omega))
  have o3:=o2.past hb3
  have lM:M.length≤1048576:=by
    have:=hrc.p.length_eq;simp at this;omega
  have hr:=hrg2.lt;have z3:=hb3.size;refine ⟨o3,lM,by omega,fun v' w1 T hT hown hgr=>?_⟩;subst hT;have hb4:Below w2.heap.size w2 (W3.alloc (.cells (ceArr c) 69)):=hb3.alloc z3 _;have hg4:w2.grownBy (W3.alloc (.cells (ceArr c) 69)) none:=⟨hb4.os,hb4.tape,hb4.output,hb4.size,fun i hi _=>hb4.block i hi⟩;have ub:∀ j,u.ownBlock=some j→w.heap.size+1≤j:=fun j q=>(World.ownsRow.lt how j q).1;have r1:=(hrg2.kept hg4 (by simp) (by simp)).kept hgr (fun e=>by have:=ub b e.symm;omega) (fun e=>by have:=ub _ e.symm;omega);have bl2:Below w.heap.size w w2:=hbl.grown hg2 hbl.size (fun j hj=>by cases hj;exact Nat.le_refl _);have bl4:Below w.heap.size w (W3.alloc (.cells (ceArr c) 69)):=bl2.trans (hb4.mono bl2.size);refine ⟨⟨D,left',cnt2,n,M ++ [c],R',r1,hho,hrc',?_,bl4.grown hgr bl4.size (fun j hj=>Nat.le_of_succ_le (ub j hj))⟩,?_⟩
  · show w1.ownsRow _ _ _ _ _ _
    rw [List.length_append,flC_app,flC_one];exact hown
  · rw [r1.left_eq,hrg.left_eq];exact hlt
set_option maxHeartbeats 8000000 in
theorem c_list {w:World} {b n:Nat} {L:List Ce} (hM:MpC w b n L) (hL:AscC L) (lL:L.length≤1048576) :
    Calls Tryz.prog 131 #[.map (some b)] w fun e w'=>∃ v,e=.returned v∧OwnC w' w.heap.size v L∧Below w.heap.size w w':=by
  obtain ⟨i0,hi,hz0,hz1,hz2⟩:=infoCe;obtain ⟨D,hown,hold⟩:=hM
  have H0:Hid (∀ w0:World,w0.ranges Tryz.prog 152 rA b w.heap.size n D (Maps.has D) (Maps.size D)→w.grownBy w0 none→LiI w b L (.slice none 0 0) w0):=fun w0 q1 q2=>
    ⟨D,_,_,n,[],L,q1,hold,RgC.start hold,OwnC.nil _ _,(Below.refl _ w).grown q2 (Nat.le_refl _) (fun j hj=>by cases hj)⟩
  have HD:=hide hown;have HL:=hide hL;have LL:=hide lL;have hbs:=hown.lt;have HBS:=hide hbs;clear hown hold hL lL hbs;go_enter Tryz.func131,Tryz.ntmps131;go_wp2_with (at_range;refine wpList_range_own _ rfl _ 165 rfl 152 67 keyC Tryz.underlying165 _ b n _ rfl HD.out ?_;intro w0 hrg0 hg0 hs0;have HI:=hide (H0.out w0 hrg0 hg0);clear hrg0 hg0 hs0)
  go_frame
  go_loopw [3] (fun v wr=>Hid (LiI w b L v wr)) (fun _ wr=>wr.rangeLeft b w.heap.size)
  case atStart=>exact HI
  case round=>
    clear HI H0 HD;obtain ⟨D,left,cnt,n,M,R,hrg,hho,hrc,how,hbel⟩:=hrel.out;have HRg:=hide hrg;have HHo:=hide hho;have HRc:=hide hrc;have HOw:=hide how;have HBl:=hide hbel;clear hrel hrg hho hrc how hbel;go_wp2_with (at_next;refine wpList_next_ranges _ rfl _ rfl 152 keyC rA (fun x:Int×ByteArray=>keyV x.1 x.2) Value.agg keyInvC (fun v y hv=>rA_inv hv) b w.heap.size n _ _ _ rfl HRg.out ?_ ?_)
    · intro hc0 hl0
      have hpm:=HRc.out.done hl0;have hlM:M.length≤1048576:=by rw [hpm.length_eq];exact LL.out
      have hcon:=c_sortCells HL.out hpm hlM HOw.out;have HC:=hide hcon;clear hc0 hl0 hpm hlM hcon;go_wp2_with (go_at_call 91;refine HC.out.mono ?_;rintro e w1 ⟨rfl,ho1,hb1,hg1⟩;have HF:=hide (And.intro ho1 (HBl.out.grown hg1 (Nat.le_trans (Nat.le_refl _) HBl.out.size) (fun j hj=>Nat.le_of_succ_le (World.ownsRow.lt HOw.out j hj).1)));clear ho1 hb1 hg1);go_ret;exact ⟨_,rfl,HF.out.1.le (Nat.le_succ _),HF.out.2⟩
    · intro xn xs cs kl y1 y2 w2 cnt2 hkey hlx hv hat hrg2 hlt hg2 hs2 hen
      obtain ⟨n',s',ek,rfl,kok⟩:=keyOf_inv hkey;obtain ⟨e1,e2⟩:=keyV_inj ek;subst e1;subst e2;have hy:y1=.held (.agg cs):=by cases hv;rfl
      obtain ⟨c,q1,q2,q3,R',hpR,hrc'⟩:=HRc.out.next HHo.out kok hlx hat;rw [hy] at q3;obtain rfl:=held_inj q3;subst q1;subst q2;have HN:=hide (step_list HRg.out HHo.out HBS.out HOw.out HBl.out LL.out HRc.out hrc' hrg2 hlt hg2);obtain ⟨k1,k2,k3⟩:=box_ka w2 c.n c.s c.g c.p;have hR1:=cellKC k2.out 0 rfl;have hR2:=cellKC k2.out 1 rfl;have hG0:=cellKC k3.out 0 rfl;have hG1:=cellKC k3.out 1 rfl;have hG2:=cellKC k3.out 2 rfl;have hG3:=cellKC k3.out 3 rfl;have hG4:=cellKC k3.out 4 rfl;have hG5:=cellKC k3.out 5 rfl;have hG6:=cellKC k3.out 6 rfl;have hG7:=cellKC k3.out 7 rfl;have hG8:=cellKC k3.out 8 rfl;have hG9:=cellKC k3.out 9 rfl;have hG10:=cellKC k3.out 10 rfl;have hG11:=cellKC k3.out 11 rfl;have hG12:=cellKC k3.out 12 rfl;clear hkey hlx hv hat hrg2 hlt hg2 hs2 ek kok hy q3 hpR hrc' k2 k3 HRc HHo HOw;go_upto_region 5 with fail;have HN3:=hide (HN.out _ k1.out);clear HN k1;generalize (w2.alloc (.cells #[.int .i64 c.n,.string c.s] 152)).alloc (.cells (agArr c.g c.p) 67)=W3 at HN3 hR1 hR2 hG0 hG1 hG2 hG3 hG4 hG5 hG6 hG7 hG8 hG9 hG10 hG11 hG12 ⊢;go_wp2_with (at_builtin;refine wpList_append_own _ rfl _ _ 36 rfl (w.heap.size+1) 69 i0 (.agg zeroCe) 15 192 Tryz.underlying36 hi hz0 hz1 hz2 rfl (by decide) _ _ _ rfl (World.ownsRow.alloc HN3.out.1 _) ⟨W3.heap.size,0,none⟩ 1 1 (ceL c) rfl rfl ?c1 ?c2 ?c3 ?c4 ?c5 ?_)
      case c1=>exact new_cellsC
      case c2=>exact ceL_one c
      case c3=>have:=HN3.out.2.1;unfold maxLen;omega
      case c4=>have:=HN3.out.2.1;omega
      case c5=>have:=HN3.out.2.2.1;simp;omega
      intro v' w1 hown' hgrow _;obtain ⟨f1,f2⟩:=HN3.out.2.2.2 _ _ _ rfl hown' hgrow;have HF1:=hide f1;have HF2:=hide f2;clear hown' hgrow f1 f2 HN3;go_wp2;go_roundw
      case rel=>exact HF1
      case measure=>exact HF2.out
end
section
open Go.ChangeShapes Go.WideShapes Go.ChangeAt Go.RowKit Go.PlainAid Go.Lib Go.Maps
set_option maxRecDepth 10000
theorem mapMadeC (z:Int) (w:World):(Instr.makeMap 165 (some (.int .i64 z))).run Tryz.prog w=.ok (.map (some w.heap.size)) (w.alloc (.map #[] 0)):=by
  have h:=Tryz.underlying165;simp [Instr.makeMap,h];rfl
structure MoI (w wr:World) (L:List Ce) (k:Nat) (M:List Ce):Prop where
  m:MpC wr w.heap.size k M
  ky:M.map Ce.key=(L.take k).map Ce.key
  o:CesO wr (w.heap.size+1) M
  b:Below w.heap.size w wr
theorem MoI.step {w wr W1 W2:World} {L M:List Ce} {k:Nat} {c:Ce} {q:Pl} {D:DataW Value} (h:MoI w wr L k M) (hc:L[k]?=some c) (hk:KeyOk c.n c.s) (ap:L.Pairwise (fun c d=>¬ SameKey c d))
    (hD:W1.ownsMap Tryz.prog 152 rA w.heap.size k D) (hH:HoldsC D M) (hb:Below wr.heap.size wr W1) (ho:AgO W1 wr.heap.size c.g q)
    (hD2:W2.ownsMap Tryz.prog 152 rA w.heap.size (k+1) (D.put (kL c.n c.s) (heldC ⟨c.n,c.s,c.g,q⟩))) (hg:W1.grownBy W2 (some w.heap.size)):MoI w W2 L (k+1) (M ++ [⟨c.n,c.s,c.g,q⟩]):=by
  have hi:=(List.getElem?_eq_some_iff.1 hc).1
  have hne:∀ d∈M,¬ SameKey d ⟨c.n,c.s,c.g,q⟩:=fun d hd e=>by
    obtain ⟨x,hx,e1,e2,_⟩:=key_mem h.ky hd;obtain ⟨j,hj⟩:=List.mem_iff_getElem?.1 hx
    have hjk:j<k:=by
      have:=(List.getElem?_eq_some_iff.1 hj).1;simp at this;omega
    rw [List.getElem?_take_of_lt hjk] at hj;obtain ⟨hj1,hj2⟩:=List.getElem?_eq_some_iff.1 hj;obtain ⟨hi1,hi2⟩:=List.getElem?_eq_some_iff.1 hc;have:=(List.pairwise_iff_getElem.1 ap) j k hj1 hi1 hjk;rw [hj2,hi2] at this;exact this ⟨e1.trans e.1,e2.trans e.2⟩
  have hp:(⟨c.n,c.s,c.g,q⟩ :: M:List Ce).Perm (M ++ [⟨c.n,c.s,c.g,q⟩]):=(List.perm_append_singleton _ _).symm;have hO:=((h.o.add hb (by have:=h.m.lt;omega) (c:=⟨c.n,c.s,c.g,q⟩) ho).grown hg (Nat.lt_succ_self _)).perm hp;refine ⟨⟨_,hD2,(hH.put_new (hD.tidy keyC) (c:=⟨c.n,c.s,c.g,q⟩) hk hne).perm hp⟩,?_,hO,?_⟩
  · rw [List.map_append,h.ky,List.take_add_one,hc,List.map_append];rfl
  · exact (h.b.trans (hb.mono h.b.size)).grown hg (Nat.le_trans h.b.size hb.size) (fun j hj=>by cases hj;exact Nat.le_refl _)
theorem box_ce (w:World) (c:Ce):Below w.heap.size w (w.alloc (.cells (ceArr c) 69))∧∀ W,Below (w.alloc (.cells (ceArr c) 69)).heap.size (w.alloc (.cells (ceArr c) 69)) W→CeCell W w.heap.size 0 c:=
  ⟨(Below.refl _ _).alloc (Nat.le_refl _) _,fun W hW=>cec_past (cec_new w _ c) hW⟩
set_option maxHeartbeats 8000000 in
theorem c_mapOfCells {w:World} {ao:Option Addr} {N ca:Nat} {L:List Ce} (hN:L.length=N) (lN:N≤1048576) (ap:L.Pairwise (fun c d=>¬ SameKey c d)) (ky:∀ c∈L,KeyOk c.n c.s) (sm:∀ c∈L,AgSm c.g) (pl:∀ c∈L,PlG c.g c.p) (hA:CesAt w ao L) :
    Calls Tryz.prog 129 #[.slice ao N ca] w fun e w'=>∃ M,e=.returned (.map (some w.heap.size))∧MpC w' w.heap.size N M∧M.map Ce.key=L.map Ce.key∧CesO w' (w.heap.size+1) M∧Below w.heap.size w w':=by
  have HA:=hide hA;have HN:=hide hN;have AP:=hide ap;have KY:=hide ky;have SM:=hide sm;have PL:=hide pl;have hmm:=mapMadeC;have M0:Hid (MoI w (w.alloc (.map #[] 0)) L 0 []):=(⟨MpC.made w,by simp,CesO.nil _ _,(Below.refl _ _).alloc (Nat.le_refl _) _⟩:MoI w (w.alloc (.map #[] 0)) L 0 []);clear hA hN ap ky sm pl;go_enter Tryz.func129,Tryz.ntmps129;go_wp2
  go_loopw [11] (fun i wr=>∃ (k:Nat) (M:List Ce),k≤N∧i=.int .i64 k∧Hid (MoI w wr L k M)) (fun i wr=>N - (Go.RowKit.intOf i).toNat)
  case atStart=>exact ⟨0,[],Nat.zero_le _,rfl,M0⟩
  case round=>
    clear M0;obtain ⟨k,M,hk,rfl,HI⟩:=hrel;by_cases hkn:k<N
    · obtain ⟨g,off,e,hcell⟩:=HA.out.1 (by have:=HN.out;omega)
      obtain ⟨c,hc⟩:∃ c,L[k]?=some c:=⟨L[k]'(by have:=HN.out;omega),List.getElem?_eq_getElem _⟩;subst e;obtain ⟨x0,x1,x2,x3,x4,x5,x6,x7,x8,x9,x10,x11,x12,x13,x14⟩:=cec_past (cec_past (hcell k c hc) (Below.refl _ _)) (HI.out.b);have hm:=List.mem_of_getElem? hc;have HC:=hide hc;have KC:=hide (KY.out c hm);have SC:=hide (SM.out c hm);have PC:=hide (PL.out c hm);have AC:=hide (ag_past (HA.out.2 c hm) HI.out.b);have BX:=box_ce wr c;have HB0:=hide BX.1;have HX:=hide BX.2;have hkni:(k:Int)<(N:Int):=by omega
      clear hcell hc hm BX;go_wp2_with fail;clear x0 x1 x2 x3 x4 x5 x6 x7 x8 x9 x10 x11 x12 x13 x14;generalize hW0:wr.alloc (.cells (ceArr c) 69)=W0 at HB0 HX ⊢;clear hW0;have HS0:(fun W=>Below W0.heap.size W0 W) W0.drew:=(Below.refl _ _).drew;refine regionK (fun W=>Below W0.heap.size W0 W) 6 (by kernel_rfl) ?_;refine tkS (i:=0) (v:=.map (some w.heap.size)) rfl rfl HS0 ?_;refine tkL (i:=1) (v:=.agg (ceArr c)) rfl rfl HS0 (fun W hW=>?_) ?_
      · obtain ⟨x0,x1,x2,x3,x4,x5,x6,x7,x8,x9,x10,x11,x12,x13,x14⟩:=HX.out W hW
        clear hW;go_simp
      refine tkS (i:=3) (v:=.pointer (some ⟨wr.heap.size,2,none⟩)) rfl rfl HS0 ?_;simp only [sA,sB,sC];refine tkL (i:=4) (v:=.agg (agArr c.g c.p)) rfl rfl HS0 (fun W hW=>?_) ?_
      · obtain ⟨x0,x1,x2,x3,x4,x5,x6,x7,x8,x9,x10,x11,x12,x13,x14⟩:=HX.out W hW
        clear hW;go_simp
      simp only [sA,sB,sC];refine onE (i:=2) rfl (fun K hK=>?_);go_simp;refine (c_keyOf c _).mono ?_;rintro e w1 ⟨rfl,hb1⟩;have HB1:Hid (Below W0.heap.size W0 w1):=(HS0:Below W0.heap.size W0 W0.drew).trans (hb1.mono (Nat.le_refl _));clear hb1;dsimp only;refine hK.out _ _ (fun _=>HB1.out) ?_;clear hK K
      try simp only [Act.put,sA,sB,sC]
      refine onE (i:=5) rfl (fun K hK=>?_);go_simp;refine (c_copyAgg SC.out PC.out (ag_past AC.out (chain HB0.out HB1.out))).mono ?_;rintro e w2 ⟨v,o,rfl,rfl,⟨q,rfl,ho⟩,hb2⟩;have HB2:Hid (Below W0.heap.size W0 w2):=chain HB1.out hb2;have HO:=hide (ho.le (show wr.heap.size≤w1.heap.size from (chain HB0.out HB1.out).size));clear hb2 ho;dsimp only;refine hK.out _ _ (fun _=>HB2.out) ?_;clear hK K
      try simp only [Act.put,sA,sB,sC]
      obtain ⟨D,hD,hH⟩:=(HI.out.m.past (chain HB0.out HB2.out));obtain ⟨W3,hrun,hD3,hg3⟩:=hD.update (val:=.agg (agArr c.g q)) (d:=heldC ⟨c.n,c.s,c.g,q⟩) (ps:=[]) keyC Tryz.underlying165 (by unfold maxLen;omega) (keyOf_cell KC.out) rfl;have HF:=hide (HI.out.step HC.out KC.out AP.out hD hH (chain HB0.out HB2.out) HO.out hD3 hg3);clear hD hH hD3 hg3;refine onE (i:=6) rfl (fun K hK=>?_);go_simp;refine hK.out _ _ (fun h=>absurd rfl h) ?_;clear hK K
      try simp only [Act.put,sA,sB,sC]
      refine doneK (by kernel_rfl) ?_ _;go_wp2;go_roundw
      case rel=>exact ⟨k+1,_,by omega,by go_num,HF⟩
      case measure=>simp [Go.RowKit.intOf];omega
    · have eL:L.take k=L:=List.take_of_length_le (by have:=HN.out;omega)
      obtain rfl:k=N:=by omega
      have HF:Hid (M.map Ce.key=L.map Ce.key):=by have:=HI.out.ky;rw [eL] at this;exact this
      clear eL hk hkn;go_wp2;go_ret;exact ⟨M,rfl,HI.out.m,HF.out,HI.out.o,HI.out.b⟩
end
section
open Go.ChangeShapes Go.WideShapes Go.ChangeAt Go.RowKit Go.PlainAid Go.Lib Go.Maps
set_option maxRecDepth 10000
theorem mapMade0 (w:World):(Instr.makeMap 165 none).run Tryz.prog w=.ok (.map (some w.heap.size)) (w.alloc (.map #[] 0)):=by
  have h:=Tryz.underlying165;simp [Instr.makeMap,h]
def isW (win:Int) (c:Ce):Bool:=c.n == win
structure TkS (w:World) (b:Nat) (win:Int) (L:List Ce) (wr:World) (D:DataW Value) (left:Lit→Bool) (cnt n:Nat) (T M R:List Ce):Prop where
  rg:wr.ranges Tryz.prog 152 rA b (w.heap.size+1) n D left cnt
  ho:HoldsC D (M ++ R)
  rc:RgC D left (M ++ R) M R
  mt:MpC wr w.heap.size T.length T
  p:(T ++ (M ++ R)).Perm L
  ty:∀ c∈T,c.n=win
  mn:∀ c∈M,c.n≠win
  g:w.grownBy wr (some b)
def TkI (w:World) (b n:Nat) (win:Int) (L:List Ce) (wr:World):Prop:=∃ D left cnt T M R,TkS w b win L wr D left cnt n T M R
theorem RgC.re {D D':DataW Value} {left:Lit→Bool} {L M R:List Ce} (h:RgC D left L M R):RgC D' left (M ++ R) M R:=⟨.refl _,h.no,h.yes⟩
theorem grown_pastC {w wr w':World} {r:Option Nat} (h:w.grownBy wr r) (hb:Below wr.heap.size wr w'):w.grownBy w' r:=
  ⟨hb.os.trans h.os,hb.tape.trans h.tape,hb.output.trans h.output,Nat.le_trans h.size hb.size,fun i hi hn=>(hb.block i (Nat.lt_of_lt_of_le hi h.size)).trans (h.block i hi hn)⟩
theorem rg_past {w w':World} {b r n cnt:Nat} {D:DataW Value} {left:Lit→Bool} (h:w.ranges Tryz.prog 152 rA b r n D left cnt) (hb:Below w.heap.size w w'):w'.ranges Tryz.prog 152 rA b r n D left cnt:=
  h.kept (row:=none) ⟨hb.os,hb.tape,hb.output,hb.size,fun i hi _=>hb.block i hi⟩ (by simp) (by simp)
structure TkN (w:World) (b:Nat) (win:Int) (L:List Ce) (W:World) (D:DataW Value) (left':Lit→Bool) (cnt2 n:Nat) (T M R':List Ce) (c:Ce):Prop where
  rg:W.ranges Tryz.prog 152 rA b (w.heap.size+1) n D left' cnt2
  ho:HoldsC D ((M ++ [c]) ++ R')
  rc:RgC D left' ((M ++ [c]) ++ R') (M ++ [c]) R'
  mt:MpC W w.heap.size T.length T
  p:(T ++ ((M ++ [c]) ++ R')).Perm L
  ty:∀ c∈T,c.n=win
  mn:∀ c∈M,c.n≠win
  g:w.grownBy W (some b)
theorem TkS.next {w wr w2:World} {b n cnt cnt2:Nat} {win:Int} {L T M R R':List Ce} {D:DataW Value} {left left':Lit→Bool} {c:Ce} (h:TkS w b win L wr D left cnt n T M R) (hb:b<w.heap.size) (hpR:R.Perm (c :: R')) (hrc:RgC D left' (M ++ R) (M ++ [c]) R')
    (hrg2:w2.ranges Tryz.prog 152 rA b (w.heap.size+1) n D left' cnt2) (hg2:wr.grownBy w2 (some (w.heap.size+1))) (W:World) (hW:Below w2.heap.size w2 W):TkN w b win L W D left' cnt2 n T M R' c:=by
  have p1:(M ++ R).Perm ((M ++ [c]) ++ R'):=by
    rw [List.append_assoc];exact List.Perm.append_left M hpR
  have g2:w.grownBy w2 (some b):=h.g.andThen hg2 (fun j hj=>by cases hj;exact .inl (Nat.le_succ _));exact ⟨rg_past hrg2 hW,h.ho.perm p1,hrc.re,((h.mt.kept hg2 (by simp)).past hW),(List.Perm.append_left T p1.symm).trans h.p,h.ty,h.mn,grown_pastC g2 hW⟩
theorem TkN.stay {w W:World} {b n cnt2:Nat} {win:Int} {L T M R':List Ce} {D:DataW Value} {left':Lit→Bool} {c:Ce} (h:TkN w b win L W D left' cnt2 n T M R' c) (hc:c.n≠win):TkS w b win L W D left' cnt2 n T (M ++ [c]) R':=
  ⟨h.rg,h.ho,h.rc,h.mt,h.p,h.ty,fun x hx=>by
    rcases List.mem_append.1 hx with q | q
    · exact h.mn x q
    · obtain rfl:x=c:=by simpa using q
      exact hc,h.g⟩
theorem TkN.move {w W W4 W5:World} {b n cnt2 cnt3:Nat} {win:Int} {L T M R':List Ce} {D DT:DataW Value} {left':Lit→Bool} {c:Ce} (h:TkN w b win L W D left' cnt2 n T M R' c) (hb:b<w.heap.size) (hap:L.Pairwise (fun c d=>¬ SameKey c d)) (hc:c.n=win)
    (hT:W.ownsMap Tryz.prog 152 rA w.heap.size T.length DT) (hTo:HoldsC DT T)
    (hT4:W4.ownsMap Tryz.prog 152 rA w.heap.size (T.length+1) (DT.put (kL c.n c.s) (heldC c))) (hg4:W.grownBy W4 (some w.heap.size))
    (hrg5:W5.ranges Tryz.prog 152 rA b (w.heap.size+1) n (D.del (kL c.n c.s)) (fun z=>left' z && !z.sameKey (kL c.n c.s)) cnt3) (ht5:W4.mapTurned W5 b) :
    TkS w b win L W5 (D.del (kL c.n c.s)) (fun z=>left' z && !z.sameKey (kL c.n c.s)) cnt3 n (T ++ [c]) M R':=by
  have p1:((M ++ [c]) ++ R').Perm (c :: (M ++ R')):=by
    rw [List.append_assoc];exact List.perm_middle
  have ho1:=h.ho.perm p1;have hd:=ho1.del (h.rg.owns.tidy keyC);obtain ⟨a1,a2⟩:=List.pairwise_cons.1 ho1.ap;have kc:=ho1.wf c (by simp)
  have hne:∀ d∈T,¬ SameKey d c:=fun d hd' e=>by
    have q:=(h.p.symm.pairwise_iff (fun {a b} (q:¬ SameKey a b)=>fun e=>q ⟨e.1.symm,e.2.symm⟩)).1 hap;exact (List.pairwise_append.1 q).2.2 d hd' c (by simp) e
  have pT:(c :: T).Perm (T ++ [c]):=(List.perm_append_singleton _ _).symm;refine ⟨hrg5,hd,⟨.refl _,fun x hx=>?_,fun x hx=>?_⟩,?_,?_,fun x hx=>?_,h.mn,?_⟩
  · simp [h.rc.no x (List.mem_append_left _ hx)]
  · have hk:¬ SameKey x c:=fun e=>a1 x (List.mem_append_right _ hx) ⟨e.1.symm,e.2.symm⟩
    simp [h.rc.yes x hx,sameKey_kL (hd.wf x (List.mem_append_right _ hx)) kc hk]
  · have k5:MpC W4 w.heap.size (T ++ [c]).length (T ++ [c]):=⟨_,by rw [List.length_append];exact hT4,(hTo.put_new (hT.tidy keyC) kc hne).perm pT⟩
    exact k5.kept ht5.grown (by simp;omega)
  · refine List.Perm.trans ?_ h.p
    rw [List.append_assoc];exact List.Perm.append_left T p1.symm
  · rcases List.mem_append.1 hx with q | q
    · exact h.ty x q
    · obtain rfl:x=c:=by simpa using q
      exact hc
  · exact (h.g.andThen hg4 (fun j hj=>by cases hj;exact .inl (Nat.le_refl _))).andThen ht5.grown (fun j hj=>by cases hj;exact .inr rfl)
theorem TkS.fin {w wr:World} {b n cnt:Nat} {win:Int} {L T M R:List Ce} {D:DataW Value} {left:Lit→Bool} (h:TkS w b win L wr D left cnt n T M R) (hl:∀ z,left z=false):MpC wr w.heap.size T.length (L.filter (isW win))∧MpC wr b n (L.filter (fun c=>!isW win c)):=by
  have hR:R=[]:=by
    cases R with
    | nil=>rfl
    | cons c R=>have:=h.rc.yes c (by simp);rw [hl] at this;cases this
  subst hR;have p:=h.p;have ho:=h.ho;rw [List.append_nil] at p ho
  have e1:(T ++ M).filter (isW win)=T:=by
    rw [List.filter_append,List.filter_eq_self.2 (fun c hc=>by simp [isW,h.ty c hc]),List.filter_eq_nil_iff.2 (fun c hc=>by simp [isW,h.mn c hc]),List.append_nil]
  have e2:(T ++ M).filter (fun c=>!isW win c)=M:=by
    rw [List.filter_append,List.filter_eq_nil_iff.2 (fun c hc=>by simp [isW,h.ty c hc]),List.filter_eq_self.2 (fun c hc=>by simp [isW,h.mn c hc]),List.nil_append]
  have p1:=p.filter (isW win);have p2:=p.filter (fun c=>!isW win c);rw [e1] at p1;rw [e2] at p2;exact ⟨h.mt.perm p1,⟨D,h.rg.owns,ho.perm p2⟩⟩
set_option maxHeartbeats 8000000 in
theorem c_take {w:World} {b n:Nat} {L:List Ce} (win:Int) (hM:MpC w b n L) (hL:L.length≤1048576) :
    Calls Tryz.prog 130 #[.map (some b),.int .i64 win] w fun e w'=>∃ m,e=.returned (.map (some w.heap.size))∧MpC w' w.heap.size m (L.filter (isW win))∧MpC w' b n (L.filter (fun c=>!isW win c))∧w.grownBy w' (some b):=by
  obtain ⟨D,hown,hold⟩:=hM;have hbs:=hown.lt;have HBS:=hide hbs;have AP:=hide hold.ap;have LL:=hide hL;have hmm:=mapMade0;have HD:=hide (hown.alloc (.map #[] 0))
  have H0:Hid (∀ w0:World,w0.ranges Tryz.prog 152 rA b (w.heap.size+1) n D (Maps.has D) (Maps.size D)→(w.alloc (.map #[] 0)).grownBy w0 none→TkI w b n win L w0):=fun w0 q1 q2=>
    ⟨D,_,_,[],[],L,q1,hold,RgC.start hold,(MpC.made w).kept q2 (by simp),.refl _,(fun c hc=>by cases hc),(fun c hc=>by cases hc),((World.grownBy_alloc w _ (some b)).andThen q2 (fun j hj=>by cases hj))⟩
  clear hown hold hbs hL;go_enter Tryz.func130,Tryz.ntmps130;go_wp2_with (at_range;refine wpList_range_own _ rfl _ 165 rfl 152 67 keyC Tryz.underlying165 _ b n _ rfl HD.out ?_;intro w0 hrg0 hg0 hs0;rw [show (w.alloc (.map #[] 0)).heap.size=w.heap.size+1 by simp] at hrg0 ⊢; have HI:=hide (H0.out w0 hrg0 hg0);clear hrg0 hg0 hs0)
  go_frame
  go_loopw [6] (fun _ wr=>Hid (TkI w b n win L wr)) (fun _ wr=>wr.rangeLeft b (w.heap.size+1))
  case atStart=>exact HI
  case round=>
    clear HI H0 HD;obtain ⟨D,left,cnt,T,M,R,hS⟩:=hrel.out;have HS:=hide hS;clear hrel hS;go_wp2_with (at_next;refine wpList_next_ranges _ rfl _ rfl 152 keyC rA (fun x:Int×ByteArray=>keyV x.1 x.2) Value.agg keyInvC (fun v y hv=>rA_inv hv) b (w.heap.size+1) n _ _ _ rfl HS.out.rg ?_ ?_)
    · intro hc0 hl0
      have HF:=hide (HS.out.fin hl0);have HG:=hide HS.out.g;clear hc0 hl0 HS;go_wp2;go_ret;exact ⟨_,rfl,HF.out.1,HF.out.2,HG.out⟩
    · intro xn xs cs kl y1 y2 w2 cnt2 hkey hlx hv hat hrg2 hlt hg2 hs2 hen
      obtain ⟨n',s',ek,rfl,kok⟩:=keyOf_inv hkey;obtain ⟨e1,e2⟩:=keyV_inj ek;subst e1;subst e2;have hy:y1=.held (.agg cs):=by cases hv;rfl
      obtain ⟨c,q1,q2,q3,R',hpR,hrc'⟩:=HS.out.rc.next HS.out.ho kok hlx hat;rw [hy] at q3;obtain rfl:=held_inj q3;subst q1;subst q2;have HN:=hide (HS.out.next HBS.out hpR hrc' hrg2 hg2);have KC:=hide kok;have HZ:Hid (w.heap.size<w2.heap.size):=Nat.lt_of_lt_of_le HS.out.mt.lt hg2.size;have HLt:Hid (cnt2<wr.rangeLeft b (w.heap.size+1)):=by rw [HS.out.rg.left_eq];exact hlt
      obtain ⟨k1,k2,k3⟩:=box_ka w2 c.n c.s c.g c.p;have K2:=hide k2.out;have K3:=hide k3.out;clear hkey hlx hv hat hrg2 hlt hg2 hs2 ek kok hy q3 hpR hrc' k2 k3 HS;go_upto_region 5 with fail;have HN3:=hide (HN.out _ k1.out);clear HN k1;generalize (w2.alloc (.cells #[.int .i64 c.n,.string c.s] 152)).alloc (.cells (agArr c.g c.p) 67)=W3 at HN3 K2 K3 ⊢;have hR1:=cellKC K2.out 0 rfl;have hR2:=cellKC K2.out 1 rfl;by_cases hcw:c.n=win
      · have hG0:=cellKC K3.out 0 rfl
        have hG1:=cellKC K3.out 1 rfl;have hG2:=cellKC K3.out 2 rfl;have hG3:=cellKC K3.out 3 rfl;have hG4:=cellKC K3.out 4 rfl;have hG5:=cellKC K3.out 5 rfl;have hG6:=cellKC K3.out 6 rfl;have hG7:=cellKC K3.out 7 rfl;have hG8:=cellKC K3.out 8 rfl;have hG9:=cellKC K3.out 9 rfl;have hG10:=cellKC K3.out 10 rfl;have hG11:=cellKC K3.out 11 rfl;have hG12:=cellKC K3.out 12 rfl;have bw:(c.n == win)=true:=by simp [hcw]
        obtain ⟨DT,hDT,hTo⟩:=HN3.out.mt;have HDT:=hide hDT;have HTo:=hide hTo;have HCW:=hide hcw
        have lT:T.length≤1048576:=by
          have:=HN3.out.p.length_eq;have:=LL.out;simp at *; omega
        have hkw:=keyOf_cell KC.out;have HKW:=hide hkw
        have HK3:Hid (∀ W4,W3.grownBy W4 (some w.heap.size)→W4.cell? ⟨w2.heap.size,0,none⟩=some (.int .i64 c.n)∧W4.cell? ⟨w2.heap.size,1,none⟩=some (.string c.s)):=fun W4 hg=>by
          have hne:w2.heap.size≠w.heap.size:=by have:=HZ.out;omega
          have q:=(hg.block w2.heap.size (Array.getElem?_eq_some_iff.1 K2.out).1 (by simpa using hne)).trans K2.out;exact ⟨cellKC q 0 rfl,cellKC q 1 rfl⟩
        clear hcw hDT hTo
        go_wp2_with (first
          | (at_mapUpdate;refine wpList_mapUpdate_own _ rfl _ _ _ 165 rfl 152 67 keyC Tryz.underlying165 _ w.heap.size T.length _ rfl HDT.out (by unfold maxLen;omega) _ _ _ rfl rfl HKW.out (heldC c) [] rfl ?_;intro W4 hD4 hg4;have HD4:=hide hD4;have HG4:=hide hg4;obtain ⟨y0,y1⟩:=HK3.out W4 hg4;have HR4:=hide (HN3.out.rg.kept hg4 (by have:=HBS.out;simp;omega) (by simp));clear hD4 hg4)
          | (refine wpList_delete_ranges _ rfl _ _ 165 152 rfl 67 keyC Tryz.underlying165 _ b (w.heap.size+1) n _ _ _ rfl HR4.out _ _ rfl HKW.out ?_;intro W5 cnt3 hrg5 hle5 htn5;go_frame))
        have hL2:Hid (TkI w b n win L W5):=⟨_,_,_,_,_,_,HN3.out.move HBS.out AP.out HCW.out HDT.out HTo.out HD4.out HG4.out hrg5 htn5⟩
        have hms:Hid (W5.rangeLeft b (w.heap.size+1)<wr.rangeLeft b (w.heap.size+1)):=by
          show _<_
          rw [hrg5.left_eq];have:=HLt.out;omega
        clear hrg5 hle5 htn5;go_roundw
        case rel=>exact hL2
        case measure=>exact hms.out
      · have bw:(c.n == win)=false:=by simp [hcw]
        have hL2:Hid (TkI w b n win L W3):=⟨_,_,_,_,_,_,HN3.out.stay hcw⟩
        have hms:Hid (W3.rangeLeft b (w.heap.size+1)<wr.rangeLeft b (w.heap.size+1)):=by
          show _<_
          rw [HN3.out.rg.left_eq];exact HLt.out
        clear hcw;go_wp2;go_roundw
        case rel=>exact hL2
        case measure=>exact hms.out
end
section
open Go.ChangeShapes Go.WideShapes Go.ChangeAt Go.RowKit Go.PlainAid Go.Lib Go.Maps
set_option maxRecDepth 10000
theorem c_l08Copy {w:World} {ao:Option Addr} {N ca:Nat} {L:List Ce} (hN:L.length=N) (lN:N≤1048576) (sm:∀ c∈L,AgSm c.g) (pl:∀ c∈L,PlG c.g c.p) (hA:CesAt w ao L) :
    Calls Tryz.prog 87 #[.slice ao N ca] w fun e w'=>∃ v M,e=.returned v∧OwnC w' w.heap.size v M∧CesO w' w.heap.size M∧M.map Ce.key=L.map Ce.key∧Below w.heap.size w w':=
  (c_l08CopyS hN lN sm pl hA).mono (fun e w' ⟨v,M,h1,h2,h3,h4,h5,_⟩=>⟨v,M,h1,h2,h3,h4,h5⟩)
end
section
open Go.ChangeShapes Go.WideShapes Go.ChangeAt Go.RowKit Go.PlainAid Go.Lib Go.Maps
set_option maxRecDepth 10000
theorem app_facts {wr w1:World} {B:Nat} {u v':Value} {F:List Ce} {c:Ce} (hu:OwnC wr B u F) (hB:B≤wr.heap.size) (hg:(wr.alloc (.cells (ceArr c) 69)).grownBy w1 u.ownBlock) (hloc:v'.ownBlock=u.ownBlock∨v'.ownBlock=some (wr.alloc (.cells (ceArr c) 69)).heap.size) :
    (∀ x L,OwnC wr B x L→ApV x u→OwnC w1 B x L∧ApV x v')∧(∀ L,CesO wr B L→CesO w1 B L)∧∀ w0,Below B w0 wr→Below B w0 w1:=by
  have a1:Below wr.heap.size wr (wr.alloc (.cells (ceArr c) 69)):=(Below.refl _ _).alloc (Nat.le_refl _) _;have hs:(wr.alloc (.cells (ceArr c) 69)).heap.size=wr.heap.size+1:=by simp
  refine ⟨fun x L hx ha=>⟨(hx.past a1).kept hg ha,fun k hk e=>?_⟩,fun L hL=>(hL.past a1).row (hu.past a1) hg,fun w0 h0=>?_⟩
  · rcases hloc with q | q
    · rw [q] at e;exact ha k hk e
    · rw [q] at e
      have:=(World.ownsRow.lt hx k hk).2;injection e with e;omega
  · have h1:Below B w0 (wr.alloc (.cells (ceArr c) 69)):=h0.trans (a1.mono hB)
    refine h1.grown hg ?_ (fun j hj=>(World.ownsRow.lt hu j hj).1);rw [hs];omega
structure TaI (w wr:World) (A:List Ce) (win:Int) (k:Nat) (va vo vr:Value):Prop where
  r:OwnC wr w.heap.size va A
  f:OwnC wr w.heap.size vo ((A.take k).filter (isW win))
  s:OwnC wr w.heap.size vr ((A.take k).filter (fun c=>!isW win c))
  o:CesO wr w.heap.size A
  a1:ApV va vo
  a2:ApV va vr
  a3:ApV vo vr
  b:Below w.heap.size w wr
theorem take_yes {A:List Ce} {k:Nat} {c:Ce} {f:Ce→Bool} (hc:A[k]?=some c) (hf:f c=true):(A.take (k+1)).filter f=(A.take k).filter f ++ [c]:=by
  rw [List.take_add_one,hc,List.filter_append];simp [hf]
theorem take_no {A:List Ce} {k:Nat} {c:Ce} {f:Ce→Bool} (hc:A[k]?=some c) (hf:f c=false):(A.take (k+1)).filter f=(A.take k).filter f:=by
  rw [List.take_add_one,hc,List.filter_append];simp [hf]
theorem TaI.of {w wr w1:World} {A:List Ce} {win:Int} {k:Nat} {va vo vr v':Value} {c:Ce} (h:TaI w wr A win k va vo vr) (hc:A[k]?=some c) (hw:c.n=win) (hown:w1.ownsRow w.heap.size 69 15 v' (((A.take k).filter (isW win)).length+1) (flC ((A.take k).filter (isW win)) ++ ceL c)) (hg:(wr.alloc (.cells (ceArr c) 69)).grownBy w1 vo.ownBlock) (hloc:v'.ownBlock=vo.ownBlock∨v'.ownBlock=some (wr.alloc (.cells (ceArr c) 69)).heap.size):TaI w w1 A win (k+1) va v' vr:=by
  obtain ⟨f1,f2,f3⟩:=app_facts h.f h.b.size hg hloc;obtain ⟨q1,q2⟩:=f1 va A h.r h.a1;obtain ⟨q3,q4⟩:=f1 vr _ h.s h.a3.symm;refine ⟨q1,?_,?_,f2 A h.o,q2,h.a2,q4.symm,f3 w h.b⟩
  · rw [take_yes hc (by simp [isW,hw])];exact OwnC.mk hown
  · rw [take_no hc (by simp [isW,hw])];exact q3
theorem TaI.rest {w wr w1:World} {A:List Ce} {win:Int} {k:Nat} {va vo vr v':Value} {c:Ce} (h:TaI w wr A win k va vo vr) (hc:A[k]?=some c) (hw:c.n≠win) (hown:w1.ownsRow w.heap.size 69 15 v' (((A.take k).filter (fun c=>!isW win c)).length+1) (flC ((A.take k).filter (fun c=>!isW win c)) ++ ceL c)) (hg:(wr.alloc (.cells (ceArr c) 69)).grownBy w1 vr.ownBlock) (hloc:v'.ownBlock=vr.ownBlock∨v'.ownBlock=some (wr.alloc (.cells (ceArr c) 69)).heap.size):TaI w w1 A win (k+1) va vo v':=by
  obtain ⟨f1,f2,f3⟩:=app_facts h.s h.b.size hg hloc;obtain ⟨q1,q2⟩:=f1 va A h.r h.a2;obtain ⟨q3,q4⟩:=f1 vo _ h.f h.a3;refine ⟨q1,?_,?_,f2 A h.o,h.a1,q2,q4,f3 w h.b⟩
  · rw [take_no hc (by simp [isW,hw])];exact q3
  · rw [take_yes hc (by simp [isW,hw])];exact OwnC.mk hown
theorem filter_len {A:List Ce} {k:Nat} {f:Ce→Bool} (h:A.length≤1048576):((A.take k).filter f).length≤1048576:=by
  have h1:=List.length_filter_le f (A.take k);have h2:=List.length_take_le k A;have h3:(A.take k).length≤A.length:=by simp;omega
  omega
theorem two_rows (w:World) (cs ds:Array Value) (h1:cs.size=0) (h2:ds.size=0) :
    Below w.heap.size w ((w.alloc (.cells cs 69)).alloc (.cells ds 69))∧OwnC ((w.alloc (.cells cs 69)).alloc (.cells ds 69)) w.heap.size (.slice (some ⟨w.heap.size,0,none⟩) 0 0) []∧OwnC ((w.alloc (.cells cs 69)).alloc (.cells ds 69)) w.heap.size (.slice (some ⟨w.heap.size+1,0,none⟩) 0 0) []∧((w.alloc (.cells cs 69)).alloc (.cells ds 69)).heap.size=w.heap.size+1+1:=by
  have a1:Below w.heap.size w (w.alloc (.cells cs 69)):=(Below.refl _ _).alloc (Nat.le_refl _) _;have a2:Below (w.alloc (.cells cs 69)).heap.size (w.alloc (.cells cs 69)) ((w.alloc (.cells cs 69)).alloc (.cells ds 69)):=(Below.refl _ _).alloc (Nat.le_refl _) _;have hs:(w.alloc (.cells cs 69)).heap.size=w.heap.size+1:=by simp
  have k2:=OwnC.made (w.alloc (.cells cs 69)) ds h2;rw [hs] at k2;exact ⟨chain a1 a2,(OwnC.made w cs h1).past a2,k2.le (Nat.le_succ _),by simp⟩
set_option maxHeartbeats 8000000 in
theorem c_l08Take {w:World} {ao:Option Addr} {N ca:Nat} {L:List Ce} (win:Int) (hN:L.length=N) (lN:N≤1048576) (sm:∀ c∈L,AgSm c.g) (pl:∀ c∈L,PlG c.g c.p) (hA:CesAt w ao L) :
    Calls Tryz.prog 72 #[.slice ao N ca,.int .i64 win] w fun e w'=>∃ vo vr A,e=.returned (.tuple #[vo,vr])∧OwnC w' w.heap.size vo (A.filter (isW win))∧OwnC w' w.heap.size vr (A.filter (fun c=>!isW win c))∧ApV vo vr∧CesO w' w.heap.size A∧A.map Ce.key=L.map Ce.key∧Below w.heap.size w w':=by
  obtain ⟨i0,hi,hz0,hz1,hz2⟩:=infoCe;have HA:=hide hA;have HN:=hide hN;have SM:=hide sm;have PL:=hide pl;have TR:=hide (two_rows w);clear hA hN sm pl;go_enter Tryz.func72,Tryz.ntmps72;go_wp2_with fail;obtain ⟨hb0,ho1,ho2,hs0⟩:=TR.out #[] #[] rfl rfl;have HB0:=hide hb0;have HO1:=hide ho1;have HO2:=hide ho2;clear TR hb0 ho1 ho2 hs0;generalize (w.alloc (.cells #[] 69)).alloc (.cells #[] 69)=W0 at HB0 HO1 HO2 ⊢;refine (c_l08Copy HN.out lN SM.out PL.out (ces_past HA.out HB0.out)).mono ?_;rintro e w1 ⟨va,A,rfl,hr,ho,hk,hb1⟩;obtain ⟨aa,cp,rfl,_⟩:=hr.form
  have hAN:A.length=N:=by
    have:=congrArg List.length hk;simp at this;rw [this];exact HN.out
  have HK:=hide hk;have HAN:=hide hAN;rw [hAN] at hr ⊢
  have I0:Hid (TaI w w1 A win 0 (.slice aa N cp) (.slice (some ⟨w.heap.size,0,none⟩) 0 0) (.slice (some ⟨w.heap.size+1,0,none⟩) 0 0)):=by
    have far:∀ k,(Value.slice aa N cp).ownBlock=some k→W0.heap.size≤k:=fun k q=>(World.ownsRow.lt hr k q).1;refine ⟨hr.le HB0.out.size,HO1.out.past hb1,HO2.out.past hb1,ho.le HB0.out.size,fun k q e=>?_,fun k q e=>?_,fun k q e=>?_,chain HB0.out hb1⟩
    · have f1:=far k q
      have f2:=(World.ownsRow.lt HO1.out k e).2;omega
    · have f1:=far k q
      have f2:=(World.ownsRow.lt HO2.out k e).2;omega
    · injection q with q
      injection e with e;simp only at q e;omega
  clear hr ho hk hb1 hAN HO1 HO2 HB0;go_wp2
  go_loopw [6,7,9] (fun vo vr i wr=>∃ (k:Nat),k≤N∧i=.int .i64 k∧Hid (TaI w wr A win k (.slice aa N cp) vo vr)) (fun vo vr i wr=>N - (Go.RowKit.intOf i).toNat)
  case atStart=>exact ⟨0,Nat.zero_le _,rfl,I0⟩
  case round=>
    clear I0;obtain ⟨k,hk,rfl,HI⟩:=hrel;by_cases hkn:k<N
    · obtain ⟨c,hc⟩:∃ c,A[k]?=some c:=⟨A[k]'(by have:=HAN.out;omega),List.getElem?_eq_getElem _⟩
      have hrr:=HI.out.r;rw [← HAN.out] at hrr;obtain ⟨b,off,e,hcell⟩:=(OwnC.at hrr HI.out.o.at).1 (by have:=HAN.out;omega);subst e;obtain ⟨x0,x1,x2,x3,x4,x5,x6,x7,x8,x9,x10,x11,x12,x13,x14⟩:=hcell k c hc;have HC:=hide hc;have hkni:(k:Int)<(N:Int):=by omega
      have hzs:w.heap.size≤wr.heap.size:=HI.out.b.size;have fl1:((A.take k).filter (isW win)).length≤1048576:=filter_len (by have:=HAN.out;omega);have fl2:((A.take k).filter (fun c=>!isW win c)).length≤1048576:=filter_len (by have:=HAN.out;omega);have FL1:=hide fl1;have FL2:=hide fl2;clear hcell hc hrr fl1 fl2;by_cases hw:c.n=win
      · have bw:(c.n == win)=true:=by simp [hw]
        have HF2:Hid (∀ v' w3,w3.ownsRow w.heap.size 69 15 v' (((A.take k).filter (isW win)).length+1) (flC ((A.take k).filter (isW win)) ++ ceL c)→(wr.alloc (.cells (ceArr c) 69)).grownBy w3 u6.ownBlock→(v'.ownBlock=u6.ownBlock∨v'.ownBlock=some (wr.alloc (.cells (ceArr c) 69)).heap.size)→TaI w w3 A win (k+1) (.slice (some ⟨b,off,none⟩) N cp) v' u7):=fun v' w3 q1 q2 q3=>HI.out.of HC.out hw q1 q2 q3;clear hw;go_wp2_with (at_builtin;refine wpList_append_own_at _ rfl _ _ 36 rfl w.heap.size 69 i0 (.agg zeroCe) 15 192 Tryz.underlying36 hi hz0 hz1 hz2 rfl (by decide) _ _ _ rfl (World.ownsRow.alloc HI.out.f _) ⟨wr.heap.size,0,none⟩ 1 1 (ceL c) rfl rfl ?c1 ?c2 ?c3 ?c4 ?c5 ?_)
        case c1=>exact new_cellsC
        case c2=>exact ceL_one _
        case c3=>have:=FL1.out;unfold maxLen;omega
        case c4=>have:=FL1.out;omega
        case c5=>simp;omega
        intro v' w3 hown' hgrow _ hloc;have HF3:=hide (HF2.out v' w3 hown' hgrow (by simpa using hloc));clear hown' hgrow hloc HF2;go_wp2;go_roundw
        case rel=>exact ⟨k+1,by omega,by go_num,HF3⟩
        case measure=>simp [Go.RowKit.intOf];omega
      · have bw:(c.n == win)=false:=by simp [hw]
        have HF2:Hid (∀ v' w3,w3.ownsRow w.heap.size 69 15 v' (((A.take k).filter (fun c=>!isW win c)).length+1) (flC ((A.take k).filter (fun c=>!isW win c)) ++ ceL c)→(wr.alloc (.cells (ceArr c) 69)).grownBy w3 u7.ownBlock→(v'.ownBlock=u7.ownBlock∨v'.ownBlock=some (wr.alloc (.cells (ceArr c) 69)).heap.size)→TaI w w3 A win (k+1) (.slice (some ⟨b,off,none⟩) N cp) u6 v'):=fun v' w3 q1 q2 q3=>HI.out.rest HC.out hw q1 q2 q3;clear hw;go_wp2_with (at_builtin;refine wpList_append_own_at _ rfl _ _ 36 rfl w.heap.size 69 i0 (.agg zeroCe) 15 192 Tryz.underlying36 hi hz0 hz1 hz2 rfl (by decide) _ _ _ rfl (World.ownsRow.alloc HI.out.s _) ⟨wr.heap.size,0,none⟩ 1 1 (ceL c) rfl rfl ?c1 ?c2 ?c3 ?c4 ?c5 ?_)
        case c1=>exact new_cellsC
        case c2=>exact ceL_one _
        case c3=>have:=FL2.out;unfold maxLen;omega
        case c4=>have:=FL2.out;omega
        case c5=>simp;omega
        intro v' w3 hown' hgrow _ hloc;have HF3:=hide (HF2.out v' w3 hown' hgrow (by simpa using hloc));clear hown' hgrow hloc HF2;go_wp2;go_roundw
        case rel=>exact ⟨k+1,by omega,by go_num,HF3⟩
        case measure=>simp [Go.RowKit.intOf];omega
    · have eL:A.take k=A:=List.take_of_length_le (by have:=HAN.out;omega)
      have q1:=HI.out.f;have q2:=HI.out.s;rw [eL] at q1 q2;have HQ:=hide (And.intro q1 q2);have HO:=hide (And.intro HI.out.o HI.out.b);have HAp:=hide HI.out.a3;clear eL q1 q2;go_wp2;go_ret2;exact ⟨_,_,A,rfl,HQ.out.1,HQ.out.2,HAp.out,HO.out.1,HK.out,HO.out.2⟩
end
section
open Go.ChangeShapes Go.WideShapes Go.ChangeAt Go.RowKit Go.PlainAid Go.Lib Go.Maps
set_option maxRecDepth 10000
theorem win_i64 {n:Int} (h:winB n=true):I64 n:=by
  unfold winB at h;simp only [Bool.and_eq_true,decide_eq_true_eq] at h;unfold I64;omega
theorem cRi_win {c:Ce} (h:cRi c=true):winB c.n=true:=by
  unfold cRi at h;simp only [Bool.and_eq_true] at h;exact h.1.1.1
theorem right_keys {w:World} {ao:Option Addr} {N:Nat} {L:List Ce} (h:ShI w ao N L) (r:csR L=true):∀ c∈L,KeyOk c.n c.s:=fun c hc=>⟨win_i64 (cRi_win ((csR_iff.1 r).2.1 c hc)),h.ss c hc⟩
theorem filter_key {win:Int}:∀ {L M:List Ce},M.map Ce.key=L.map Ce.key→(M.filter (isW win)).map Ce.key=(L.filter (isW win)).map Ce.key∧(M.filter (fun c=>!isW win c)).map Ce.key=(L.filter (fun c=>!isW win c)).map Ce.key
  | [],[],_=>⟨rfl,rfl⟩
  | c :: L,d :: M,h=>by
    simp only [List.map_cons,List.cons.injEq] at h;obtain ⟨q1,q2⟩:=filter_key (win:=win) h.2
    have e:isW win d=isW win c:=by
      obtain ⟨q,rfl⟩:=key_eq h.1
      rfl
    simp only [List.filter_cons,e]
    cases isW win c <;> simp [q1,q2,h.1]
  | [],_ :: _,h=>by simp at h
  | _ :: _,[],h=>by simp at h
structure ShO (w:World) (B:Nat) (v:Value) (nm:ByteArray) (R O:List Ce) (code:Int):Prop where
  ex:∃ vr vo,v=.agg #[.string nm,vr,vo,.int .i64 code]∧OwnC w B vr R∧OwnC w B vo O∧ApV vr vo
  o:CesO w B (R ++ O)
theorem ShO.none (w:World) (B:Nat) (code:Int):ShO w B (.agg #[.string ⟨#[]⟩,.slice none 0 0,.slice none 0 0,.int .i64 code]) ⟨#[]⟩ [] [] code:=
  ⟨⟨_,_,rfl,OwnC.nil _ _,OwnC.nil _ _,fun k h=>by cases h⟩,CesO.nil _ _⟩
def TkA (nm:ByteArray) (L:List Ce) (win:Int) (nm':ByteArray) (R O:List Ce) (code:Int):Prop:=
  if shB nm L=true∧winB win=true then nm'=nm∧R.map Ce.key=(L.filter (fun c=>!isW win c)).map Ce.key∧O.map Ce.key=(L.filter (isW win)).map Ce.key∧code=0 else nm'=⟨#[]⟩∧R=[]∧O=[]∧code=1
theorem TkA.no {nm:ByteArray} {L:List Ce} {win:Int} (h:¬ (shB nm L=true∧winB win=true)):TkA nm L win ⟨#[]⟩ [] [] 1:=by
  unfold TkA;rw [if_neg h];exact ⟨rfl,rfl,rfl,rfl⟩
theorem TkA.yes {nm:ByteArray} {L R O:List Ce} {win:Int} (h:shB nm L=true) (k:winB win=true) (h1:R.map Ce.key=(L.filter (fun c=>!isW win c)).map Ce.key) (h2:O.map Ce.key=(L.filter (isW win)).map Ce.key):TkA nm L win nm R O 0:=by
  unfold TkA;rw [if_pos ⟨h,k⟩];exact ⟨rfl,h1,h2,rfl⟩
theorem shB_csR {nm:ByteArray} {L:List Ce} (h:shB nm L=true):csR L=true:=by
  unfold shB at h;simp only [Bool.and_eq_true] at h;exact h.2
def TkP (w:World) (nm:ByteArray) (L:List Ce) (win:Int) (e:Ending) (w':World):Prop:=∃ v nm' R O code,e=.returned v∧TkA nm L win nm' R O code∧ShO w' w.heap.size v nm' R O code∧Below w.heap.size w w'
theorem box_sh (w:World) (nm:ByteArray) (v:Value):Hid (Below w.heap.size w ((w.alloc (.cells #[.string nm,v] 55)).alloc (.cells #[.string ⟨#[]⟩,.slice none 0 0,.slice none 0 0,.int .i64 0] 135)))∧Hid (((w.alloc (.cells #[.string nm,v] 55)).alloc (.cells #[.string ⟨#[]⟩,.slice none 0 0,.slice none 0 0,.int .i64 0] 135)).heap[w.heap.size]?=some (.cells #[.string nm,v] 55 (0,0)))∧Hid (((w.alloc (.cells #[.string nm,v] 55)).alloc (.cells #[.string ⟨#[]⟩,.slice none 0 0,.slice none 0 0,.int .i64 0] 135)).heap[w.heap.size+1]?=some (.cells #[.string ⟨#[]⟩,.slice none 0 0,.slice none 0 0,.int .i64 0] 135 (0,0)))∧Hid (((w.alloc (.cells #[.string nm,v] 55)).alloc (.cells #[.string ⟨#[]⟩,.slice none 0 0,.slice none 0 0,.int .i64 0] 135)).heap.size=w.heap.size+2):=by
  have a1:∀ (X:World) o,Below X.heap.size X (X.alloc o):=fun X o=>(Below.refl _ _).alloc (Nat.le_refl _) _;have k0:=heap_alloc_new w (.cells #[.string nm,v] 55);have k1:=heap_alloc_new (w.alloc (.cells #[.string nm,v] 55)) (.cells #[.string ⟨#[]⟩,.slice none 0 0,.slice none 0 0,.int .i64 0] 135);simp only [World.size_alloc] at k1;exact ⟨hide (chain (a1 _ _) (a1 _ _)),hide (((a1 _ _).block _ (by simp)).trans k0),hide k1,hide (by simp)⟩
theorem OwnC.setNe {w:World} {B r j:Nat} {v:Value} {L:List Ce} (h:OwnC w B v L) (hr:r<B) (u:Value):OwnC (w.setCell ⟨r,j,none⟩ u) B v L:=
  World.ownsRow.kept (row:=some r) h ⟨rfl,rfl,rfl,(KeepsWalks.setCell w _ u).size,fun i _ hk=>Below.heap_setCell _ _ _ i (fun e=>hk (by rw [e]))⟩ (by
    cases q:v.ownBlock with
    | none=>exact .inl rfl
    | some j=>exact .inr (fun e=>by
        have:=(World.ownsRow.lt h j q).1;injection e with e;omega))
theorem CesO.setNe {w:World} {B r j:Nat} {L:List Ce} (h:CesO w B L) (hr:r<B) (u:Value):CesO (w.setCell ⟨r,j,none⟩ u) B L:=⟨fun c hc=>(h.o c hc).below hr u,h.ap⟩
theorem parts_perm (A:List Ce) (win:Int):A.Perm (A.filter (fun c=>!isW win c) ++ A.filter (isW win)):=
  ((List.perm_append_comm).trans (List.filter_append_perm (isW win) A)).symm
set_option maxHeartbeats 8000000 in
theorem c_i_ShardTake {w:World} {ao:Option Addr} {N ca:Nat} {L:List Ce} (nm:ByteArray) (win:Int) (hs:nm.size≤maxLen) (hm:MX w) (hI:ShI w ao N L) :
    Calls Tryz.prog 100 #[.agg #[.string nm,.slice ao N ca],.int .i64 win] w (TkP w nm L win):=by
  obtain ⟨k0,k1,k2,k3⟩:=box_sh w nm (.slice ao N ca);have II:=hide hI;have HM:=hide hm;clear hI hm;go_enter Tryz.func100,Tryz.ntmps100;have z0:=cellKC k1.out 0 rfl;have z1:=cellKC k1.out 1 rfl;go_wp2_with fail;clear z0 z1;generalize (w.alloc (.cells #[.string nm,.slice ao N ca] 55)).alloc (.cells #[.string ⟨#[]⟩,.slice none 0 0,.slice none 0 0,.int .i64 0] 135)=W0 at k0 k1 k2 k3 ⊢;refine (c_i_ShardRight nm hs II.out.hN II.out.lN II.out.ok II.out.sm II.out.ss (HM.out.past k0.out) (ces_past II.out.mem k0.out)).mono ?_;rintro e w1 ⟨rfl,hb1⟩;have HT1:=hide (chain k0.out hb1);have k4:=hide ((hb1.block _ (Array.getElem?_eq_some_iff.1 k1.out).1).trans k1.out);have k5:=hide ((hb1.block _ (Array.getElem?_eq_some_iff.1 k2.out).1).trans k2.out);have k6:Hid (w.heap.size+2≤w1.heap.size):=by show _≤_;have:=hb1.size;have:=k3.out;omega
  clear hb1 k0 k1 k2 k3;have f0:=fzR 0 k5.out;have f1:=fzR 1 k5.out;have f2:=fzR 2 k5.out;have f3:=fzR 3 k5.out;have y0:=cellKC k5.out 0 rfl;have y1:=cellKC k5.out 1 rfl;have y2:=cellKC k5.out 2 rfl;have y3:=cellKC k5.out 3 rfl;have HBs:Hid (∀ W j u,Below w.heap.size w W→Below w.heap.size w (W.setCell ⟨w.heap.size+1,j,none⟩ u)):=fun W j u q=>q.setCell (Nat.le_succ _) u
  cases h1:shB nm L with
  | false=>
    have HA:Hid (TkA nm L win ⟨#[]⟩ [] [] 1):=TkA.no (fun q=>by rw [h1] at q;cases q.1);clear h1;go_wp2;refine bodyPost_ret (v:=.agg #[.string ⟨#[]⟩,.slice none 0 0,.slice none 0 0,.int .i64 1]) (by simp [results,Tryz.results100,go_sem,y0,y1,y2,y3]) rfl ?_;refine show TkP _ _ _ _ _ _ from ⟨_,_,_,_,_,rfl,HA.out,ShO.none _ _ _,?_⟩
    first
      | exact HBs.out _ _ _ (HBs.out _ _ _ (HBs.out _ _ _ (HBs.out _ _ _ HT1.out)))
      | (repeat (refine HBs.out _ _ _ ?_)
         exact HT1.out)
  | true=>
    clear f0 f1 f2 f3 y0 y1 y2 y3;go_wp2_with fail;refine (c_windowRight win _).mono ?_;rintro e wz ⟨rfl,hwz⟩;obtain rfl:=hwz.symm
    cases h2:winB win with
    | false=>
      have HA:Hid (TkA nm L win ⟨#[]⟩ [] [] 1):=TkA.no (fun q=>by rw [h2] at q;cases q.2);have f0:=fzR 0 k5.out;have f1:=fzR 1 k5.out;have f2:=fzR 2 k5.out;have f3:=fzR 3 k5.out;have y0:=cellKC k5.out 0 rfl;have y1:=cellKC k5.out 1 rfl;have y2:=cellKC k5.out 2 rfl;have y3:=cellKC k5.out 3 rfl;clear h1 h2;go_wp2;refine bodyPost_ret (v:=.agg #[.string ⟨#[]⟩,.slice none 0 0,.slice none 0 0,.int .i64 1]) (by simp [results,Tryz.results100,go_sem,y0,y1,y2,y3]) rfl ?_;refine show TkP _ _ _ _ _ _ from ⟨_,_,_,_,_,rfl,HA.out,ShO.none _ _ _,?_⟩
      first
        | exact HBs.out _ _ _ (HBs.out _ _ _ (HBs.out _ _ _ (HBs.out _ _ _ HT1.out)))
        | (repeat (refine HBs.out _ _ _ ?_)
           exact HT1.out)
    | true=>
      have H1:=hide h1;have H2:=hide h2;have x0:=cellKC k4.out 0 rfl;have x1:=cellKC k4.out 1 rfl;clear h1 h2;go_wp2_with fail;clear x0 x1;have RK:=hide (right_keys II.out (shB_csR H1.out));have RA:=hide (csR_iff.1 (shB_csR H1.out)).2.2;refine (c_mapOfCells II.out.hN II.out.lN RA.out.ap RK.out II.out.sm II.out.pl (ces_past II.out.mem HT1.out)).mono ?_;rintro e w2 ⟨M,rfl,hMp,hky,hO,hb2⟩;have KY:=hide hky;have AM:=hide (asc_key hky RA.out);have hlM:M.length≤1048576:=by rw [map_len hky,II.out.hN];exact II.out.lN
      have LM:=hide hlM;have HMp:=hide hMp;have HO:=hide hO;have HT2:=hide (chain HT1.out hb2);have k7:=hide ((hb2.block _ (Array.getElem?_eq_some_iff.1 k4.out).1).trans k4.out);have k8:=hide ((hb2.block _ (Array.getElem?_eq_some_iff.1 k5.out).1).trans k5.out);have hz2:=hb2.size;clear hMp hky hO hb2 k4 k5 RK hlM;go_wp2_with fail;refine (c_take win HMp.out LM.out).mono ?_;rintro e w3 ⟨m3,rfl,hT,hS,hg3⟩;have HT3:Hid (Below w.heap.size w w3):=HT2.out.grown hg3 HT2.out.size (fun j hj=>by cases hj;exact HT1.out.size);have HO3:=hide (HO.out.grown hg3 (Nat.lt_succ_self _));have hnk:w.heap.size≠w1.heap.size:=by have:=k6.out;omega
      have hnk':w.heap.size+1≠w1.heap.size:=by have:=k6.out;omega
      have k9:=hide ((hg3.block _ (Array.getElem?_eq_some_iff.1 k7.out).1 (by simpa using hnk)).trans k7.out);have k10:=hide ((hg3.block _ (Array.getElem?_eq_some_iff.1 k8.out).1 (by simpa using hnk')).trans k8.out);have HT:=hide hT;have HS:=hide hS;have hz3:=hg3.size;have HZ3:Hid (w.heap.size+2≤w3.heap.size):=by show _≤_;have:=k6.out;omega
      have HZ1:Hid (w1.heap.size≤w3.heap.size):=by show _≤_;omega
      clear hT hS hg3 k7 k8 hnk hnk' hz2 hz3 HMp HO HT2;go_upto_region 5 with fail;generalize w2.heap.size=t at HT ⊢;have HS0:(fun W=>Below w3.heap.size w3 W) w3.drew:=(Below.refl _ _).drew;refine regionK (fun W=>Below w3.heap.size w3 W) 8 (by kernel_rfl) ?_;refine tkS (i:=0) (v:=.pointer (some ⟨w.heap.size,0,none⟩)) rfl rfl HS0 ?_;refine tkL (i:=1) (v:=.string nm) rfl rfl HS0 (fun W hW=>?_) ?_
      · have x0:=cell_past hW (cellKC k9.out 0 rfl)
        clear hW;go_simp
      refine tkS (i:=2) (v:=.map (some w1.heap.size)) rfl rfl HS0 ?_;simp only [sA,sB,sC];refine tkS (i:=5) (v:=.map (some t)) rfl rfl HS0 ?_;simp only [sA,sB,sC];refine onE (i:=3) rfl (fun K hK=>?_);go_simp;refine (c_list (HS.out.past (HS0:Below w3.heap.size w3 w3.drew)) (AM.out.filter _) (by have:=List.length_filter_le (fun c=>!isW win c) M;have:=LM.out;omega)).mono ?_;rintro e w4 ⟨vr,rfl,hr,hb4⟩;have HB4:Hid (Below w3.heap.size w3 w4):=(HS0:Below w3.heap.size w3 w3.drew).trans (hb4.mono (Nat.le_refl _));have HR4:=hide hr;clear hr hb4;dsimp only;refine hK.out _ _ (fun _=>HB4.out) ?_;clear hK K
      try simp only [Act.put,sA,sB,sC]
      obtain ⟨ar,cr,rfl,_⟩:=HR4.out.form;refine tkS (i:=4) (v:=.agg #[.string nm,.slice ar (M.filter (fun c=>!isW win c)).length cr]) rfl rfl HB4.out ?_;simp only [sA,sB,sC];refine onE (i:=6) rfl (fun K hK=>?_);go_simp;refine (c_list (HT.out.past HB4.out) (AM.out.filter _) (by have:=List.length_filter_le (isW win) M;have:=LM.out;omega)).mono ?_;rintro e w5 ⟨vo,rfl,ho,hb5⟩;have HB5:Hid (Below w3.heap.size w3 w5):=chain HB4.out hb5;have HO5:=hide ho;have HR5:=hide (HR4.out.past hb5);have HAp:Hid (ApV (.slice ar (M.filter (fun c=>!isW win c)).length cr) vo):=fun k q1 q2=>by have f1:=(World.ownsRow.lt HR4.out k q1).2;have f2:=(World.ownsRow.lt ho k q2).1;omega
      clear ho hb5;dsimp only;refine hK.out _ _ (fun _=>HB5.out) ?_;clear hK K
      try simp only [Act.put,sA,sB,sC]
      obtain ⟨ap,cq,rfl,_⟩:=HO5.out.form;refine tkS (i:=7) (v:=.agg #[.string nm,.slice ar (M.filter (fun c=>!isW win c)).length cr,.slice ap (M.filter (isW win)).length cq,.int .i64 0]) rfl rfl HB5.out ?_;simp only [sA,sB,sC];have k11:=hide ((HB5.out.block _ (Array.getElem?_eq_some_iff.1 k10.out).1).trans k10.out);have f0:=fzR 0 k11.out;have f1:=fzR 1 k11.out;have f2:=fzR 2 k11.out;have f3:=fzR 3 k11.out;have y0:=cellKC k11.out 0 rfl;have y1:=cellKC k11.out 1 rfl;have y2:=cellKC k11.out 2 rfl;have y3:=cellKC k11.out 3 rfl;refine onE (i:=8) rfl (fun K hK=>?_);go_simp;refine hK.out _ _ (fun h=>absurd rfl h) ?_;clear hK K
      try simp only [Act.put,sA,sB,sC]
      refine doneK (by kernel_rfl) ?_ _;go_wp2;obtain ⟨q1,q2⟩:=filter_key (win:=win) KY.out;have hlt:w.heap.size+1<w3.heap.size:=by have:=HZ3.out;omega
      have hle:w.heap.size≤w3.heap.size:=by omega
      have hlt1:w.heap.size+1<w1.heap.size+1:=by have:=k6.out;omega
      have hle1:w.heap.size≤w1.heap.size+1:=by have:=k6.out;omega
      have hle4:w3.heap.size≤w4.heap.size:=HB4.out.size;refine bodyPost_ret (v:=.agg #[.string nm,.slice ar (M.filter (fun c=>!isW win c)).length cr,.slice ap (M.filter (isW win)).length cq,.int .i64 0]) (by simp [results,Tryz.results100,go_sem,y0,y1,y2,y3]) rfl ?_;refine show TkP _ _ _ _ _ _ from ⟨_,_,_,_,_,rfl,TkA.yes H1.out H2.out q2 q1,⟨⟨_,_,rfl,?_,?_,HAp.out⟩,?_⟩,?_⟩
      · refine OwnC.le ?_ hle
        repeat (refine OwnC.setNe ?_ hlt _)
        exact HR5.out
      · refine OwnC.le ?_ hle
        repeat (refine OwnC.setNe ?_ hlt _)
        exact HO5.out.le hle4
      · refine CesO.le ?_ hle1
        repeat (refine CesO.setNe ?_ hlt1 _)
        exact (HO3.out.past HB5.out).perm (parts_perm M win)
      · repeat (refine HBs.out _ _ _ ?_)
        exact chain HT3.out HB5.out
end
end Go.Proofs.YtmjogablacnlgaaGreatDoor
