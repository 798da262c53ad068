/-
 Parts.
-/
import Derived.Test.YtioohanfodmddaaGreatDoorCZI
set_option maxRecDepth 10000
set_option maxHeartbeats 8000000
set_option linter.all false
namespace Go.Proofs.YtioohanfodmddaaGreatDoor
open Go.ChangeShapes Go.WideShapes Go.ChangeAt Go.RowKit Go.PlainAid Go.Lib Go.Maps Go.Shelf Tryz
open Go.Sort hiding Below
theorem mBb {p:Prop} (h:p:=by
 go_wp2;refine bodyPost_ret (v:=.agg #[.string ⟨#[]⟩,.slice none 0 0,.slice none 0 0,.int .i64 1]) (by simp [results,results58,go_sem,y0,y1,y2,y3]) rfl ?_;refine show TkP _ _ _ _ _ _ from ⟨_,_,_,_,_,rfl,HA,ShO.none _ _ _,?_⟩
 first
   | exact aa.out _ _ _ (aa.out _ _ _ (aa.out _ _ _ (aa.out _ _ _ ab)))
   | (repeat (refine aa.out _ _ _ ?_)
      exact ab.out)):p:=h
variable {B N b ca cnt cnt2 j k n r:Nat}
variable {nm s s':ByteArray}
variable {n' win:Int}
variable {u v v' va vo vr:Value}
variable {D:DataW Value}
variable {A L M R R' T:List Ce}
variable {c:Ce}
variable {W w w' w1 w2 wr:World}
variable {left left':Lit->Bool}
section
abbrev QtK (n:Int) (s:ByteArray):Value:=.agg #[.int .i64 n,.string s]
def kL (n:Int) (s:ByteArray):Lit:=.string (keyBytes [.int .i64 n,.string s.data.toList])
def Qdc (n:Int) (s:ByteArray):Prop:=I64 n/\s.size<=maxLen
theorem laidC:laidOutB prog=true:=oG
theorem keyRow:(128:TypeId)<prog.types.size:=of_decide_eq_true oG
theorem keyC:Keyed prog 128:=Keyed.of_law (deep_law_laid laidC (m:=2) oB keyRow oG oG)
theorem keyTy:prog.keyType 128=true:=oG
theorem Qgg:prog.cellsOf 128=2:=oG
theorem cellsI:prog.cellsOf 2=1:=oG
theorem cellsS:prog.cellsOf 9=1:=oG
theorem QtQ:prog.types.size+1=(440 - 1)+1+1:=oG
theorem wfI64 {n:Int} (h:I64 n):(Lit.int .i64 n).wf=true:=by
  unfold I64 at h;simp [Lit.wf,IntKind.signed,IntKind.bits,IntKind.min,IntKind.max];omega
theorem QoG {n:Int} (h:(Lit.int .i64 n).wf=true):I64 n:=by
  unfold I64;simp [Lit.wf,IntKind.signed,IntKind.bits,IntKind.min,IntKind.max] at h;omega
theorem QmS (d:Nat) (a b:Value):prog.keyLits (d+1+1) 128 [a,b]=(prog.keyLits (d+1) 2 [a]).bind fun x=>(prog.keyLits (d+1) 9 [b]).map fun y=>x ++ y:=by
  conv=>lhs;unfold Program.keyLits
  simp only [underlying128,Qgg];simp [cellsI,cellsS]
  cases prog.keyLits (d+1) 2 [a] <;> cases prog.keyLits (d+1) 9 [b] <;> simp
theorem Qnp (d:Nat) (a:Value) (l:List Lit):prog.keyLits (d+1) 2 [a]=some l↔∃ n,a=.int .i64 n/\I64 n/\l=[.int .i64 n]:=by
  unfold Program.keyLits;simp only [underlying2];constructor
  · intro h
    cases a <;> simp at h
    obtain ⟨⟨rfl,hw⟩,rfl⟩:=h;exact ⟨_,rfl,QoG hw,rfl⟩
  · rintro ⟨n,rfl,hn,rfl⟩
    simp [wfI64 hn]
theorem QnA (d:Nat) (a:Value) (l:List Lit):prog.keyLits (d+1) 9 [a]=some l↔∃ s,a=.string s/\s.size<=maxLen/\l=[.string s.data.toList]:=by
  unfold Program.keyLits;simp only [underlying9];constructor
  · intro h
    cases a <;> simp at h
    obtain ⟨hw,rfl⟩:=h;exact ⟨_,rfl,hw,rfl⟩
  · rintro ⟨s,rfl,hs,rfl⟩
    simp [hs]
theorem Qcc {n:Int} (h:Qdc n s):keyOf prog 128 (QtK n s)=some (kL n s):=by
  have h1:=(Qnp (440 - 1) (.int .i64 n) _).2 ⟨n,rfl,h.1,rfl⟩;have h2:=(QnA (440 - 1) (.string s) _).2 ⟨s,rfl,h.2,rfl⟩;have h3:=QmS (440 - 1) (.int .i64 n) (.string s);rw [h1,h2] at h3;have hf:(QtK n s).formed prog 128=true:=by simp [Value.formed,underlying128,Qgg]
  unfold keyOf;simp only [underlying128,keyTy,hf,Bool.and_self,if_true,QtQ]
  show Option.map _ (prog.keyLits (440 - 1+1+1) 128 [.int .i64 n,.string s])=_
  rw [h3]
  rfl
theorem Qho {key:Value} {kl:Lit} (h:keyOf prog 128 key=some kl):∃ n s,key=QtK n s/\kl=kL n s/\Qdc n s:=by
  have h0:=h;unfold keyOf at h;simp only [underlying128,keyTy,Bool.true_and,QtQ] at h;by_cases hf:key.formed prog 128=true
  · cases key <;> simp [Value.formed,underlying128] at hf
    rename_i cs;obtain ⟨l⟩:=cs;rw [Qgg] at hf
    match l,hf with
    | [a,b],_=>
      have aa:(Value.agg #[a,b]).formed prog 128=true:=by simp [Value.formed,underlying128,Qgg]
      rw [if_pos aa] at h
      change Option.map _ (prog.keyLits (440 - 1+1+1) 128 [a,b])=_ at h
      rw [QmS] at h
      cases h1:prog.keyLits (440 - 1+1) 2 [a] with
      | none=>rw [h1] at h;simp at h
      | some x=>
        cases h2:prog.keyLits (440 - 1+1) 9 [b] with
        | none=>rw [h1,h2] at h;simp at h
        | some y=>
          obtain ⟨n,rfl,hn,rfl⟩:=(Qnp _ _ _).1 h1;obtain ⟨s,rfl,hs,rfl⟩:=(QnA _ _ _).1 h2;refine ⟨n,s,rfl,?_,hn,hs⟩;have:=Qcc (n:=n) (s:=s) ⟨hn,hs⟩;rw [h0] at this;exact Option.some.inj this
  · rw [if_neg hf] at h;cases h
theorem QmM {n:Int} (h:Qdc n s) (h':Qdc n' s') (e:kL n s=kL n' s'):n=n'/\s=s':=by
  have h1:=Qcc h;rw [e] at h1;have:=keyC.inj h1 (Qcc h');injection this with q;have q:=congrArg Array.toList q;simp at q;exact q
theorem Qtl {n:Int} (h:Qdc n s):WideAt.IsKeyLit (kL n s):=keyC.key (Qcc h)
def rA:Value->Option (DataW Value×List MemPlace)
  | .agg cs=>some (.held (.agg cs),[])
  | _=>none
theorem Qtn {y:DataW Value×List MemPlace} (h:rA v=some y):∃ cs,v=.agg cs:=by
  cases v <;> simp [rA] at h
  exact ⟨_,rfl⟩
abbrev Qj8 (c:Ce):DataW Value:=.held (.agg (Qau c.g c.p))
structure HoldsC (D:DataW Value) (L:List Ce):Prop where
  ap:L.Pairwise (fun c d=>¬ Qa1 c d)
  wf:∀ c∈L,Qdc c.n c.s
  val:∀ c∈L,∀ z,D.atKey (kL c.n c.s) z=Qj8 c
  only:∀ n s,Qdc n s->Maps.has D (kL n s)=true->∃ c∈L,c.n=n/\c.s=s
  sz:Maps.size D=L.length
theorem HoldsC.nil:HoldsC (.map []) []:=⟨.nil,by simp,by simp,(fun n s _ h=>by simp [Maps.has] at h),rfl⟩
theorem HoldsC.perm (h:HoldsC D L) (p:L.Perm M):HoldsC D M:=
  ⟨(p.pairwise_iff (fun {a b} (q:¬ Qa1 a b)=>fun e=>q ⟨e.1.symm,e.2.symm⟩)).1 h.ap,fun c hc=>h.wf c (p.mem_iff.2 hc),fun c hc=>h.val c (p.mem_iff.2 hc),fun n s k q=>by
    obtain ⟨c,hc,e⟩:=h.only n s k q;exact ⟨c,p.mem_iff.1 hc,e⟩,h.sz.trans p.length_eq⟩
theorem HoldsC.none (h:HoldsC D L) {n:Int} (k:Qdc n s) (hn:∀ d∈L,¬ (d.n=n/\d.s=s)):Maps.has D (kL n s)=false:=by
  cases q:Maps.has D (kL n s)
  · rfl
  · obtain ⟨c,hc,e⟩:=h.only n s k q
    exact absurd e (hn c hc)
theorem HoldsC.some (h:HoldsC D L) (hc:c∈L):Maps.has D (kL c.n c.s)=true:=Maps.has_true_of_atKey (h.val c hc)
theorem HoldsC.put_new (h:HoldsC D L) (t:Tidy D) (k:Qdc c.n c.s) (hn:∀ d∈L,¬ Qa1 d c):HoldsC (D.put (kL c.n c.s) (Qj8 c)) (c :: L):=by
  have hh:=h.none k hn;refine ⟨List.pairwise_cons.2 ⟨fun d hd e=>hn d hd ⟨e.1.symm,e.2.symm⟩,h.ap⟩,fun d hd=>?_,fun d hd z=>?_,fun n s k2 q=>?_,?_⟩
  · rcases List.mem_cons.1 hd with rfl | hd
    · exact k
    · exact h.wf d hd
  · rcases List.mem_cons.1 hd with rfl | hd
    · exact atKey_put_same t.isMap (Qtl k) _ z
    · rw [atKey_put_other (fun e=>hn d hd (QmM (h.wf d hd) k e))];exact h.val d hd z
  · by_cases e:kL n s=kL c.n c.s
    · obtain ⟨e1,e2⟩:=QmM k2 k e
      exact ⟨c,by simp,e1.symm,e2.symm⟩
    · rw [has_put_other e] at q
      obtain ⟨d,hd,e2⟩:=h.only n s k2 q;exact ⟨d,ZZm _ hd,e2⟩
  · rw [size_put t,hh];simp [h.sz]
theorem HoldsC.del {B:List Ce} (h:HoldsC D (c :: B)) (t:Tidy D):HoldsC (D.del (kL c.n c.s)) B:=by
  have k:=h.wf c oE;obtain ⟨a1,a2⟩:=List.pairwise_cons.1 h.ap;refine ⟨a2,fun x hx=>h.wf x (ZZm _ hx),fun x hx z=>?_,fun n s k2 q=>?_,?_⟩
  · rw [atKey_del_other (fun q=>a1 x hx (by obtain ⟨e1,e2⟩:=QmM (h.wf x (List.mem_cons_of_mem _ hx)) k q;exact ⟨e1.symm,e2.symm⟩))];exact h.val x (ZZm _ hx) z
  · by_cases q2:kL n s=kL c.n c.s
    · rw [q2,has_del_same] at q;cases q
    · rw [has_del_other q2] at q
      obtain ⟨x,hx,e2⟩:=h.only n s k2 q;rcases List.mem_cons.1 hx with rfl | hx
      · exact absurd (by rw [<- e2.1,<- e2.2]) q2
      · exact ⟨x,hx,e2⟩
  · have hh:=h.some (c:=c) oE
    have:=size_del (k:=kL c.n c.s) t;rw [hh,if_pos rfl,h.sz] at this
    simpa using this
def MpC (w:World) (b n:Nat) (L:List Ce):Prop:=∃ D:DataW Value,w.ownsMap prog 128 rA b n D/\HoldsC D L
theorem MpC.perm (h:MpC w b n L) (p:L.Perm M):MpC w b n M:=by
  obtain ⟨D,h1,h2⟩:=h;exact ⟨D,h1,h2.perm p⟩
theorem MpC.kept (h:MpC w b n L) {row:Option Nat} (hg:w.grownBy w' row) (hne:Option.some b≠row):MpC w' b n L:=by
  obtain ⟨D,h1,h2⟩:=h;exact ⟨D,h1.kept hg hne,h2⟩
theorem MpC.lt (h:MpC w b n L):b<w.heap.size:=by
  obtain ⟨D,h1,h2⟩:=h;exact h1.lt
theorem MpC.past (h:MpC w b n L) (hb:Bw w w'):MpC w' b n L:=h.kept (row:=Option.none) ⟨hb.os,hb.tape,hb.output,hb.size,fun i hi _=>hb.block i hi⟩ oE
theorem MpC.made (w:World):MpC (w.alloc (.map #[] 0)) w.heap.size 0 []:=⟨_,World.ownsMap_made _ _ _ _,HoldsC.nil⟩
structure RgC (D:DataW Value) (left:Lit->Bool) (L M R:List Ce):Prop where
  p:(M ++ R).Perm L
  no:∀ c∈M,left (kL c.n c.s)=false
  yes:∀ c∈R,left (kL c.n c.s)=true
theorem RgC.start (h:HoldsC D L):RgC D (Maps.has D) L [] L:=⟨by simp,by simp,fun c hc=>h.some hc⟩
theorem Qh9 {n:Int} (h:Qdc n s) (h':Qdc n' s') (e:¬ (n=n'/\s=s')):(kL n s).sameKey (kL n' s')=false:=sameKey_ne (fun q=>e (QmM h h' q))
theorem RgC.next (h:RgC D left L M R) (ho:HoldsC D L) {n:Int} (k:Qdc n s) (hl:left (kL n s)=true) {d:DataW Value} (hat:∀ z,D.atKey (kL n s) z=d) :
    ∃ c,c.n=n/\c.s=s/\d=Qj8 c/\∃ R',R.Perm (c :: R')/\RgC D (fun z=>left z && !z.sameKey (kL n s)) L (M ++ [c]) R':=by
  obtain ⟨c,hc,e1,e2⟩:=ho.only n s k (Maps.has_true_of_atKey hat);subst e1;subst e2
  have ae:c∈R:=by
    rcases List.mem_append.1 (h.p.mem_iff.2 hc) with q | q
    · rw [h.no c q] at hl;cases hl
    · exact q
  obtain ⟨A,B,rfl⟩:=List.append_of_mem ae;have pr:(A ++ c :: B).Perm (c :: (A ++ B)):=List.perm_middle;refine ⟨c,rfl,rfl,(hat .nil).symm.trans (ho.val c hc .nil),A ++ B,pr,?_,fun x hx=>?_,fun x hx=>?_⟩
  · refine List.Perm.trans ?_ h.p
    rw [List.append_assoc];exact List.Perm.append_left M pr.symm
  · rcases List.mem_append.1 hx with q | q
    · simp [h.no x q]
    · obtain rfl:x=c:=by simpa using q
      simp [WideAt.sameKey_self (Qtl k)]
  · have aa:x∈A ++ c :: B:=by
      rcases List.mem_append.1 hx with q | q <;> simp [q]
    have ac:¬ Qa1 x c:=by
      have ap:=(ho.perm ((h.p.symm).trans (List.Perm.append_left M pr))).ap;have ad:=(List.pairwise_append.1 ap).2.1;exact fun q=>(List.pairwise_cons.1 ad).1 x hx ⟨q.1.symm,q.2.symm⟩
    have ab:x∈L:=h.p.mem_iff.1 (List.mem_append_right _ aa);simp [h.yes x aa,Qh9 (ho.wf x ab) k ac]
theorem RgC.done (h:RgC D left L M R) (hl:∀ z,left z=false):M.Perm L:=by
  have:R=[]:=by
    cases R with
    | nil=>rfl
    | cons c R=>have:=h.yes c oE;rw [hl] at this;cases this
  have p:=h.p;rw [this,List.append_nil] at p;exact p
end
section
def LiI (w:World) (b:Nat) (L:List Ce) (v:Value) (wr:World):Prop:=
  ∃ (D:DataW Value) (left:Lit->Bool) (cnt n:Nat) (M R:List Ce),wr.ranges prog 128 rA b w.heap.size n D left cnt/\HoldsC D L/\RgC D left L M R/\OwnC wr (w.heap.size+1) v M/\Bw w wr
theorem Qm7 {n:Int} (h:QtK n s=QtK n' s'):n=n'/\s=s':=by
  injection h with q;have q:=congrArg Array.toList q;simp at q;exact q
theorem QnH {cs:Array Value} (h:(DataW.held (Value.agg cs):DataW Value)=Qj8 c):cs=Qau c.g c.p:=by
  injection h with q;injection q
theorem QtJ (w:World) (n:Int) (s:ByteArray) (g:Ag) (p:Pl):Hid (Bw w ((w.alloc (.cells #[.int .i64 n,.string s] 128)).alloc (.cells (Qau g p) 44)))/\Hid (((w.alloc (.cells #[.int .i64 n,.string s] 128)).alloc (.cells (Qau g p) 44)).heap[w.heap.size]?=some (.cells #[.int .i64 n,.string s] 128 (0,0)))/\Hid (((w.alloc (.cells #[.int .i64 n,.string s] 128)).alloc (.cells (Qau g p) 44)).heap[w.heap.size+1]?=some (.cells (Qau g p) 44 (0,0))):=by
  have a1:∀ (X:World) o,Bw X (X.alloc o):=fun X o=>bAA;have k0:=ZZk w (.cells #[.int .i64 n,.string s] 128);have k1:=ZZk (w.alloc (.cells #[.int .i64 n,.string s] 128)) (.cells (Qau g p) 44);simp only [World.size_alloc] at k1;exact ⟨Qaa (Qac (a1 _ _) (a1 _ _)),Qaa (((a1 _ _).block _ oE).trans k0),Qaa k1⟩
theorem Qp8 (key:Value) (kl:Lit) (h:keyOf prog 128 key=some kl):∃ x:Int×ByteArray,key=QtK x.1 x.2:=by
  obtain ⟨n,s,e,_⟩:=Qho h;exact ⟨(n,s),e⟩
theorem Qpz (hrg:wr.ranges prog 128 rA b w.heap.size n D left cnt) (hho:HoldsC D L) (hbs:b<w.heap.size) (how:OwnC wr (w.heap.size+1) u M) (hbl:Bw w wr) (lL:L.length<=1048576)
    (hrc:RgC D left L M R) (hrc':RgC D left' L (M ++ [c]) R') (hrg2:w2.ranges prog 128 rA b w.heap.size n D left' cnt2) (hlt:cnt2<cnt) (hg2:wr.grownBy w2 (some w.heap.size)) (W3:World) (hb3:Bw w2 W3) :
    OwnC W3 (w.heap.size+1) u M/\M.length<=1048576/\w.heap.size+1<=W3.heap.size/\∀ v' w1 T,T=46->w1.ownsRow (w.heap.size+1) T 15 v' (M.length+1) (flC M ++ ceL c)->(W3.alloc (.cells (Qao c) T)).grownBy w1 u.ownBlock->LiI w b L v' w1/\w1.rangeLeft b w.heap.size<wr.rangeLeft b w.heap.size:=by
  have o2:OwnC w2 (w.heap.size+1) u M:=World.ownsRow.kept how hg2 (by
    cases q:u.ownBlock with
    | none=>exact .inl rfl
    | some j=>exact .inr (fun e=>by
        have:=(World.ownsRow.lt how j q).1;injection e with e;omega))
  have o3:=o2.past hb3
  have lM:M.length<=1048576:=by
    have:=hrc.p.length_eq;simp at this;omega
  have hr:=hrg2.lt;have z3:=hb3.size;refine ⟨o3,lM,by omega,fun v' w1 T hT hown hgr=>?_⟩;subst hT;have aa:Bw w2 (W3.alloc (.cells (Qao c) 46)):=hb3.alloc z3 _;have ad:w2.grownBy (W3.alloc (.cells (Qao c) 46)) none:=⟨aa.os,aa.tape,aa.output,aa.size,fun i hi _=>aa.block i hi⟩;have ub:∀ j,u.ownBlock=some j->w.heap.size+1<=j:=fun j q=>(World.ownsRow.lt how j q).1;have r1:=(hrg2.kept ad oE oE).kept hgr (fun e=>by have:=ub b e.symm;omega) (fun e=>by have:=ub _ e.symm;omega);have ac:Bw w w2:=hbl.grown hg2 hbl.size (fun j hj=>by cases hj;exact ZZa _);have ab:Bw w (W3.alloc (.cells (Qao c) 46)):=ac.trans (aa.mono ac.size);refine ⟨⟨D,left',cnt2,n,M ++ [c],R',r1,hho,hrc',?_,ab.grown hgr ab.size (fun j hj=>Nat.le_of_succ_le (ub j hj))⟩,?_⟩
  · show w1.ownsRow _ _ _ _ _ _
    rw [List.length_append,Qc1,QiG];exact hown
  · rw [r1.left_eq,hrg.left_eq];exact hlt
theorem Qt5 (hM:MpC w b n L) (hL:AscC L) (lL:L.length<=1048576) :
    Calls prog 102 #[.map (some b)] w fun e w'=>∃ v,e=.returned v/\OwnC w' w.heap.size v L/\Bw w w':=by
  obtain ⟨i0,hi,a8,aT,aZ⟩:=Qeb;obtain ⟨D,ac,ad⟩:=hM
  have H0:Hid (∀ w0:World,w0.ranges prog 128 rA b w.heap.size n D (Maps.has D) (Maps.size D)->w.grownBy w0 none->LiI w b L (.slice none 0 0) w0):=fun w0 q1 q2=>
    ⟨D,_,_,n,[],L,q1,ad,RgC.start ad,OwnC.nil _ _,(ZZb _ w).grown q2 (ZZa _) (fun j hj=>by cases hj)⟩
  have HD:=Qaa ac;have HL:=Qaa hL;have LL:=Qaa lL;have ay:=ac.lt;have aS:=Qaa ay;clear ac ad hL lL ay;go_enter func102,ntmps102;go_wp2_with (at_range;refine wpList_range_own _ rfl _ 150 rfl 128 44 keyC underlying150 _ b n _ rfl HD ?_;intro w0 ak aJ aV;have HI:=Qaa (H0.out w0 ak aJ);clear ak aJ aV)
  go_frame
  go_loopw [3] (fun v wr=>Hid (LiI w b L v wr)) (fun _ wr=>wr.rangeLeft b w.heap.size)
  case atStart=>exact HI
  case round=>
    clear HI H0 HD;obtain ⟨D,aL,bb,n,M,R,aC,aA,aw,aK,ai⟩:=hrel.out;have az:=Qaa aC;have ar:=Qaa aA;have am:=Qaa aw;have al:=Qaa aK;have ao:=Qaa ai;clear hrel aC aA aw aK ai;go_wp2_with (at_next;refine wpList_next_ranges _ rfl _ rfl 128 keyC rA (fun x:Int×ByteArray=>QtK x.1 x.2) Value.agg Qp8 (fun v y hv=>Qtn hv) b w.heap.size n _ _ _ rfl az ?_ ?_)
    · intro aO aF
      have ap:=am.done aF;have aI:M.length<=1048576:=by rw [ap.length_eq];exact LL.out
      have aj:=Qez HL ap aI al;have HC:=Qaa aj;clear aO aF ap aI aj;go_wp2_with (go_at_call 59;refine HC.mono ?_;rintro e w1 ⟨rfl,aH,aX,aB⟩;have HF:=Qaa (And.intro aH (ao.grown aB (Nat.le_trans (ZZa _) ao.size) (fun j hj=>Nat.le_of_succ_le (World.ownsRow.lt al j hj).1)));clear aH aX aB);go_ret;exact ⟨_,rfl,HF.1.le (Nat.le_succ _),HF.2⟩
    · intro xn xs cs kl y1 y2 w2 aM af av hv ax ah aD aE aN ba
      obtain ⟨n',s',ek,rfl,aG⟩:=Qho af;obtain ⟨e1,e2⟩:=Qm7 ek;subst e1;subst e2;have hy:y1=.held (.agg cs):=by cases hv;rfl
      obtain ⟨c,q1,q2,q3,R',a6,ag⟩:=am.next ar aG av ax;rw [hy] at q3;obtain rfl:=QnH q3;subst q1;subst q2;have HN:=Qaa (Qpz az ar aS al ao LL am ag ah aD aE);obtain ⟨k1,k2,k3⟩:=QtJ w2 c.n c.s c.g c.p;have a9:=Qaf k2 0 rfl;have a5:=Qaf k2 1 rfl;obtain ⟨a3,a2,a7,a4,aR,aP,a1,a0,aU,aW,aq,au,an⟩:=Qde k3;clear af av hv ax ah aD aE aN ek aG hy q3 a6 ag k2 k3 am ar al;go_upto_region 5 with fail;have ae:=Qaa (HN.out _ k1);clear HN k1;generalize (w2.alloc _).alloc _=W3 at ae a9 a5 a3 a2 a7 a4 aR aP a1 a0 aU aW aq au an ⊢;go_wp2_with (at_builtin;refine wpList_append_own _ rfl _ _ 27 rfl (w.heap.size+1) 46 i0 (.agg Qbo) 15 192 underlying27 hi a8 aT aZ rfl oF _ _ _ rfl (World.ownsRow.alloc ae.1 _) ⟨W3.heap.size,0,none⟩ 1 1 (ceL c) rfl rfl ?c1 ?c2 ?c3 ?c4 ?c5 ?_)
      case c1=>exact QbD
      case c2=>exact QcG c
      case c3=>have:=ae.2.1;unfold maxLen;omega
      case c4=>have:=ae.2.1;omega
      case c5=>have:=ae.2.2.1;simp;omega
      intro v' w1 aa ab _;obtain ⟨f1,f2⟩:=ae.2.2.2 _ _ _ rfl aa ab;have aQ:=Qaa f1;have aY:=Qaa f2;clear aa ab f1 f2 ae;go_wp2;go_roundw
      case rel=>exact aQ
      case measure=>exact aY.out
end
variable {ao:Option Addr}
section
theorem Qtf (z:Int) (w:World):(Instr.makeMap 150 (some (.int .i64 z))).run prog w=.ok (.map (some w.heap.size)) (w.alloc (.map #[] 0)):=by
  have h:=underlying150;simp [Instr.makeMap,h];rfl
structure MoI (w wr:World) (L:List Ce) (k:Nat) (M:List Ce):Prop where
  m:MpC wr w.heap.size k M
  ky:M.map Ce.key=(L.take k).map Ce.key
  o:CesO wr (w.heap.size+1) M
  b:Bw w wr
theorem MoI.step {W1 W2:World} {q:Pl} (h:MoI w wr L k M) (hc:L[k]?=some c) (hk:Qdc c.n c.s) (ap:L.Pairwise (fun c d=>¬ Qa1 c d))
    (hD:W1.ownsMap prog 128 rA w.heap.size k D) (hH:HoldsC D M) (hb:Bw wr W1) (ho:AgO W1 wr.heap.size c.g q)
    (hD2:W2.ownsMap prog 128 rA w.heap.size (k+1) (D.put (kL c.n c.s) (Qj8 ⟨c.n,c.s,c.g,q⟩))) (hg:W1.grownBy W2 (some w.heap.size)):MoI w W2 L (k+1) (M ++ [⟨c.n,c.s,c.g,q⟩]):=by
  have hi:=(ZZd.1 hc).1
  have ad:∀ d∈M,¬ Qa1 d ⟨c.n,c.s,c.g,q⟩:=fun d hd e=>by
    obtain ⟨x,hx,e1,e2,_⟩:=QlS h.ky hd;obtain ⟨j,hj⟩:=List.mem_iff_getElem?.1 hx
    have aa:j<k:=by
      have:=(ZZd.1 hj).1;simp at this;omega
    rw [List.getElem?_take_of_lt aa] at hj;obtain ⟨ab,af⟩:=ZZd.1 hj;obtain ⟨ae,ac⟩:=ZZd.1 hc;have:=(List.pairwise_iff_getElem.1 ap) j k ab ae aa;rw [af,ac] at this;exact this ⟨e1.trans e.1,e2.trans e.2⟩
  have hp:(⟨c.n,c.s,c.g,q⟩ :: M:List Ce).Perm (M ++ [⟨c.n,c.s,c.g,q⟩]):=(List.perm_append_singleton _ _).symm;have hO:=((h.o.add hb (oA h.m.lt) (c:=⟨c.n,c.s,c.g,q⟩) ho).grown hg (Nat.lt_succ_self _)).perm hp;refine ⟨⟨_,hD2,(hH.put_new (hD.tidy keyC) (c:=⟨c.n,c.s,c.g,q⟩) hk ad).perm hp⟩,?_,hO,?_⟩
  · rw [List.map_append,h.ky,List.take_add_one,hc,List.map_append];rfl
  · exact (h.b.trans (hb.mono h.b.size)).grown hg (Nat.le_trans h.b.size hb.size) (fun j hj=>by cases hj;exact ZZa _)
theorem box_ce (w:World) (c:Ce):Bw w (w.alloc (.cells (Qao c) 46))/\∀ W,Below (w.alloc (.cells (Qao c) 46)).heap.size (w.alloc (.cells (Qao c) 46)) W->QbO W w.heap.size 0 c:=
  ⟨(ZZb _ _).alloc (ZZa _) _,fun W hW=>Qaq (QfC w _ c) hW⟩
theorem Qk1 (hN:L.length=N) (lN:N<=1048576) (ap:L.Pairwise (fun c d=>¬ Qa1 c d)) (ky:∀ c∈L,Qdc c.n c.s) (sm:∀ c∈L,AgSm c.g) (pl:∀ c∈L,PlG c.g c.p) (hA:QbG w ao L) :
    Calls prog 100 #[.slice ao N ca] w fun e w'=>∃ M,e=.returned (.map (some w.heap.size))/\MpC w' w.heap.size N M/\M.map Ce.key=L.map Ce.key/\CesO w' (w.heap.size+1) M/\Bw w w':=by
  have HA:=Qaa hA;have HN:=Qaa hN;have AP:=Qaa ap;have KY:=Qaa ky;have SM:=Qaa sm;have PL:=Qaa pl;have av:=Qtf;have M0:Hid (MoI w (w.alloc (.map #[] 0)) L 0 []):=Qaa (⟨MpC.made w,by simp,CesO.nil _ _,(Below.refl _ _).alloc (Nat.le_refl _) _⟩);clear hA hN ap ky sm pl;go_enter func100,ntmps100;go_wp2
  go_loopw [11] (fun i wr=>∃ (k:Nat) (M:List Ce),k<=N/\i=.int .i64 k/\Hid (MoI w wr L k M)) (fun i wr=>N - (Go.RowKit.intOf i).toNat)
  case atStart=>exact ⟨0,[],ZZj _,rfl,M0⟩
  case round=>
    clear M0;obtain ⟨k,M,hk,rfl,HI⟩:=hrel;by_cases aq:k<N
    · obtain ⟨g,aw,e,aa⟩:=HA.1 (oA HN.out)
      obtain ⟨c,hc⟩:∃ c,L[k]?=some c:=⟨L[k]'(oA HN.out),ZZe _⟩;subst e;obtain ⟨x0,x1,x2,x3,x4,x5,x6,x7,x8,x9,aj,af,ag,ai,ae⟩:=Qaq (Qaq (aa k c hc) (ZZb _ _)) (HI.b);have hm:=ZZn hc;have HC:=Qaa hc;have KC:=Qaa (KY.out c hm);have SC:=Qaa (SM.out c hm);have PC:=Qaa (PL.out c hm);have AC:=Qaa (QaD (HA.2 c hm) HI.b);have BX:=box_ce wr c;have ab:=Qaa BX.1;have HX:=Qaa BX.2;have au:(k:Int)<(N:Int):=oB
      clear aa hc hm BX;go_wp2_with fail;clear x0 x1 x2 x3 x4 x5 x6 x7 x8 x9 aj af ag ai ae;generalize hW0:wr.alloc _=W0 at ab HX ⊢;clear hW0;have ac:(fun W=>Bw W0 W) W0.drew:=(ZZb _ _).drew;refine Qal (fun W=>Bw W0 W) 6 oG ?_;refine tkS 0 (.map (some w.heap.size)) ac ?_;refine tkL 1 (.agg (Qao c)) ac (fun W hW=>?_) ?_
      · obtain ⟨x0,x1,x2,x3,x4,x5,x6,x7,x8,x9,aj,af,ag,ai,ae⟩:=HX.out W hW
        exact mAo
      refine tkS 3 (.pointer (some ⟨wr.heap.size,2,none⟩)) ac ?_;simp only [sX];refine tkL 4 (.agg (Qau c.g c.p)) ac (fun W hW=>?_) ?_
      · obtain ⟨x0,x1,x2,x3,x4,x5,x6,x7,x8,x9,aj,af,ag,ai,ae⟩:=HX.out W hW
        exact mAo
      simp only [sX];refine onE 2 fun K hK=>?_;go_simp;refine (Qlv c _).mono ?_;rintro e w1 ⟨rfl,al⟩;have ad:Hid (Bw W0 w1):=(ac:Bw W0 W0.drew).trans (al.mono (ZZa _));clear al;dsimp only;refine gK hK ad.out ?_
      try simp only [sX]
      refine onE 5 fun K hK=>?_;go_simp;refine (QkQ SC PC (QaD AC (Qac ab ad))).mono ?_;rintro e w2 ⟨v,o,rfl,rfl,⟨q,rfl,ho⟩,ak⟩;have ah:Hid (Bw W0 w2):=Qac ad ak;have HO:=Qaa (ho.le (show wr.heap.size<=w1.heap.size from (Qac ab ad).size));clear ak ho;dsimp only;refine gK hK ah.out ?_
      try simp only [sX]
      obtain ⟨D,hD,hH⟩:=(HI.m.past (Qac ab ah));obtain ⟨W3,ar,am,an⟩:=hD.update (val:=.agg (Qau c.g q)) (d:=Qj8 ⟨c.n,c.s,c.g,q⟩) (ps:=[]) keyC underlying150 oC (Qcc KC) rfl;have HF:=Qaa (HI.step HC KC AP hD hH (Qac ab ah) HO am an);clear hD hH am an;refine onE 6 fun K hK=>?_;go_simp;refine hK.out _ _ (fun h=>absurd rfl h) ?_
      try simp only [sX]
      refine dnE ?_ _;go_wp2;go_roundw
      case rel=>exact ⟨k+1,_,by omega,by go_num,HF⟩
      case measure=>simp [zI];omega
    · have eL:L.take k=L:=List.take_of_length_le (oA HN.out)
      obtain rfl:k=N:=oB
      have HF:Hid (M.map Ce.key=L.map Ce.key):=by have:=HI.ky;rw [eL] at this;exact this
      clear eL hk aq;go_wp2;go_ret;exact ⟨M,rfl,HI.m,HF,HI.o,HI.b⟩
end
section
theorem QrD (w:World):(Instr.makeMap 150 none).run prog w=.ok (.map (some w.heap.size)) (w.alloc (.map #[] 0)):=by
  have h:=underlying150;simp [Instr.makeMap,h]
def isW (win:Int) (c:Ce):Bool:=c.n == win
structure TkS (w:World) (b:Nat) (win:Int) (L:List Ce) (wr:World) (D:DataW Value) (left:Lit->Bool) (cnt n:Nat) (T M R:List Ce):Prop where
  rg:wr.ranges prog 128 rA b (w.heap.size+1) n D left cnt
  ho:HoldsC D (M ++ R)
  rc:RgC D left (M ++ R) M R
  mt:MpC wr w.heap.size T.length T
  p:(T ++ (M ++ R)).Perm L
  ty:∀ c∈T,c.n=win
  mn:∀ c∈M,c.n≠win
  g:w.grownBy wr (some b)
def TkI (w:World) (b n:Nat) (win:Int) (L:List Ce) (wr:World):Prop:=∃ D left cnt T M R,TkS w b win L wr D left cnt n T M R
theorem RgC.re {D':DataW Value} (h:RgC D left L M R):RgC D' left (M ++ R) M R:=⟨.refl _,h.no,h.yes⟩
theorem Qln {r:Option Nat} (h:w.grownBy wr r) (hb:Bw wr w'):w.grownBy w' r:=
  ⟨hb.os.trans h.os,hb.tape.trans h.tape,hb.output.trans h.output,Nat.le_trans h.size hb.size,fun i hi hn=>(hb.block i (Nat.lt_of_lt_of_le hi h.size)).trans (h.block i hi hn)⟩
theorem QuC (h:w.ranges prog 128 rA b r n D left cnt) (hb:Bw w w'):w'.ranges prog 128 rA b r n D left cnt:=
  h.kept (row:=none) ⟨hb.os,hb.tape,hb.output,hb.size,fun i hi _=>hb.block i hi⟩ oE oE
structure TkN (w:World) (b:Nat) (win:Int) (L:List Ce) (W:World) (D:DataW Value) (left':Lit->Bool) (cnt2 n:Nat) (T M R':List Ce) (c:Ce):Prop where
  rg:W.ranges prog 128 rA b (w.heap.size+1) n D left' cnt2
  ho:HoldsC D ((M ++ [c]) ++ R')
  rc:RgC D left' ((M ++ [c]) ++ R') (M ++ [c]) R'
  mt:MpC W w.heap.size T.length T
  p:(T ++ ((M ++ [c]) ++ R')).Perm L
  ty:∀ c∈T,c.n=win
  mn:∀ c∈M,c.n≠win
  g:w.grownBy W (some b)
theorem TkS.next (h:TkS w b win L wr D left cnt n T M R) (hb:b<w.heap.size) (hpR:R.Perm (c :: R')) (hrc:RgC D left' (M ++ R) (M ++ [c]) R')
    (hrg2:w2.ranges prog 128 rA b (w.heap.size+1) n D left' cnt2) (hg2:wr.grownBy w2 (some (w.heap.size+1))) (W:World) (hW:Bw w2 W):TkN w b win L W D left' cnt2 n T M R' c:=by
  have p1:(M ++ R).Perm ((M ++ [c]) ++ R'):=by
    rw [List.append_assoc];exact List.Perm.append_left M hpR
  have g2:w.grownBy w2 (some b):=h.g.andThen hg2 (fun j hj=>by cases hj;exact .inl (Nat.le_succ _));exact ⟨QuC hrg2 hW,h.ho.perm p1,hrc.re,((h.mt.kept hg2 oE).past hW),(List.Perm.append_left T p1.symm).trans h.p,h.ty,h.mn,Qln g2 hW⟩
theorem TkN.stay (h:TkN w b win L W D left' cnt2 n T M R' c) (hc:c.n≠win):TkS w b win L W D left' cnt2 n T (M ++ [c]) R':=
  ⟨h.rg,h.ho,h.rc,h.mt,h.p,h.ty,fun x hx=>by
    rcases List.mem_append.1 hx with q | q
    · exact h.mn x q
    · obtain rfl:x=c:=by simpa using q
      exact hc,h.g⟩
theorem TkN.move {W4 W5:World} {cnt3:Nat} {DT:DataW Value} (h:TkN w b win L W D left' cnt2 n T M R' c) (hb:b<w.heap.size) (hap:L.Pairwise (fun c d=>¬ Qa1 c d)) (hc:c.n=win)
    (hT:W.ownsMap prog 128 rA w.heap.size T.length DT) (hTo:HoldsC DT T)
    (hT4:W4.ownsMap prog 128 rA w.heap.size (T.length+1) (DT.put (kL c.n c.s) (Qj8 c))) (hg4:W.grownBy W4 (some w.heap.size))
    (hrg5:W5.ranges prog 128 rA b (w.heap.size+1) n (D.del (kL c.n c.s)) (fun z=>left' z && !z.sameKey (kL c.n c.s)) cnt3) (ht5:W4.mapTurned W5 b) :
    TkS w b win L W5 (D.del (kL c.n c.s)) (fun z=>left' z && !z.sameKey (kL c.n c.s)) cnt3 n (T ++ [c]) M R':=by
  have p1:((M ++ [c]) ++ R').Perm (c :: (M ++ R')):=by
    rw [List.append_assoc];exact List.perm_middle
  have aa:=h.ho.perm p1;have hd:=aa.del (h.rg.owns.tidy keyC);obtain ⟨a1,a2⟩:=List.pairwise_cons.1 aa.ap;have kc:=aa.wf c oE
  have ab:∀ d∈T,¬ Qa1 d c:=fun d hd' e=>by
    have q:=(h.p.symm.pairwise_iff (fun {a b} (q:¬ Qa1 a b)=>fun e=>q ⟨e.1.symm,e.2.symm⟩)).1 hap;exact (List.pairwise_append.1 q).2.2 d hd' c oE e
  have pT:(c :: T).Perm (T ++ [c]):=(List.perm_append_singleton _ _).symm;refine ⟨hrg5,hd,⟨.refl _,fun x hx=>?_,fun x hx=>?_⟩,?_,?_,fun x hx=>?_,h.mn,?_⟩
  · simp [h.rc.no x (List.mem_append_left _ hx)]
  · have hk:¬ Qa1 x c:=fun e=>a1 x (List.mem_append_right _ hx) ⟨e.1.symm,e.2.symm⟩
    simp [h.rc.yes x hx,Qh9 (hd.wf x (List.mem_append_right _ hx)) kc hk]
  · have k5:MpC W4 w.heap.size (T ++ [c]).length (T ++ [c]):=⟨_,by rw [List.length_append];exact hT4,(hTo.put_new (hT.tidy keyC) kc ab).perm pT⟩
    exact k5.kept ht5.grown oH
  · refine List.Perm.trans ?_ h.p
    rw [List.append_assoc];exact List.Perm.append_left T p1.symm
  · rcases List.mem_append.1 hx with q | q
    · exact h.ty x q
    · obtain rfl:x=c:=by simpa using q
      exact hc
  · exact (h.g.andThen hg4 (fun j hj=>by cases hj;exact .inl (ZZa _))).andThen ht5.grown (fun j hj=>by cases hj;exact .inr rfl)
theorem TkS.fin (h:TkS w b win L wr D left cnt n T M R) (hl:∀ z,left z=false):MpC wr w.heap.size T.length (L.filter (isW win))/\MpC wr b n (L.filter (fun c=>!isW win c)):=by
  have hR:R=[]:=by
    cases R with
    | nil=>rfl
    | cons c R=>have:=h.rc.yes c oE;rw [hl] at this;cases this
  subst hR;have p:=h.p;have ho:=h.ho;rw [List.append_nil] at p ho
  have e1:(T ++ M).filter (isW win)=T:=by
    rw [List.filter_append,List.filter_eq_self.2 (fun c hc=>by simp [isW,h.ty c hc]),List.filter_eq_nil_iff.2 (fun c hc=>by simp [isW,h.mn c hc]),List.append_nil]
  have e2:(T ++ M).filter (fun c=>!isW win c)=M:=by
    rw [List.filter_append,List.filter_eq_nil_iff.2 (fun c hc=>by simp [isW,h.ty c hc]),List.filter_eq_self.2 (fun c hc=>by simp [isW,h.mn c hc]),List.nil_append]
  have p1:=p.filter (isW win);have p2:=p.filter (fun c=>!isW win c);rw [e1] at p1;rw [e2] at p2;exact ⟨h.mt.perm p1,⟨D,h.rg.owns,ho.perm p2⟩⟩
theorem c_take (win:Int) (hM:MpC w b n L) (hL:L.length<=1048576) :
    Calls prog 101 #[.map (some b),.int .i64 win] w fun e w'=>∃ m,e=.returned (.map (some w.heap.size))/\MpC w' w.heap.size m (L.filter (isW win))/\MpC w' b n (L.filter (fun c=>!isW win c))/\w.grownBy w' (some b):=by
  obtain ⟨D,ad,aa⟩:=hM;have ax:=ad.lt;have am:=Qaa ax;have AP:=Qaa aa.ap;have LL:=Qaa hL;have a8:=QrD;have HD:=Qaa (ad.alloc (.map #[] 0))
  have H0:Hid (∀ w0:World,w0.ranges prog 128 rA b (w.heap.size+1) n D (Maps.has D) (Maps.size D)->(w.alloc (.map #[] 0)).grownBy w0 none->TkI w b n win L w0):=fun w0 q1 q2=>
    ⟨D,_,_,[],[],L,q1,aa,RgC.start aa,(MpC.made w).kept q2 oE,.refl _,(fun c hc=>by cases hc),(fun c hc=>by cases hc),((World.grownBy_alloc w _ (some b)).andThen q2 (fun j hj=>by cases hj))⟩
  clear ad aa ax hL;go_enter func101,ntmps101;go_wp2_with (at_range;refine wpList_range_own _ rfl _ 150 rfl 128 44 keyC underlying150 _ b n _ rfl HD ?_;intro w0 ae aC aS;rw [show (w.alloc (.map #[] 0)).heap.size=w.heap.size+1 by simp] at ae ⊢; have HI:=Qaa (H0.out w0 ae aC);clear ae aC aS)
  go_frame
  go_loopw [6] (fun _ wr=>Hid (TkI w b n win L wr)) (fun _ wr=>wr.rangeLeft b (w.heap.size+1))
  case atStart=>exact HI
  case round=>
    clear HI H0 HD;obtain ⟨D,aI,a2,T,M,R,hS⟩:=hrel.out;have HS:=Qaa hS;clear hrel hS;go_wp2_with (at_next;refine wpList_next_ranges _ rfl _ rfl 128 keyC rA (fun x:Int×ByteArray=>QtK x.1 x.2) Value.agg Qp8 (fun v y hv=>Qtn hv) b (w.heap.size+1) n _ _ _ rfl HS.rg ?_ ?_)
    · intro aM aF
      have HF:=Qaa (HS.fin aF);have HG:=Qaa HS.g;clear aM aF HS;go_wp2;go_ret;exact ⟨_,rfl,HF.1,HF.2,HG⟩
    · intro xn xs cs kl y1 y2 w2 al ah aE hv aw aj aB ar aL aY
      obtain ⟨n',s',ek,rfl,ao⟩:=Qho ah;obtain ⟨e1,e2⟩:=Qm7 ek;subst e1;subst e2;have hy:y1=.held (.agg cs):=by cases hv;rfl
      obtain ⟨c,q1,q2,q3,R',aG,ag⟩:=HS.rc.next HS.ho ao aE aw;rw [hy] at q3;obtain rfl:=QnH q3;subst q1;subst q2;have HN:=Qaa (HS.next am aG ag aj ar);have KC:=Qaa ao;have HZ:Hid (w.heap.size<w2.heap.size):=Nat.lt_of_lt_of_le HS.mt.lt ar.size;have av:Hid (al<wr.rangeLeft b (w.heap.size+1)):=by rw [HS.rg.left_eq];exact aB
      obtain ⟨k1,k2,k3⟩:=QtJ w2 c.n c.s c.g c.p;have K2:=Qaa k2;have K3:=Qaa k3;clear ah aE hv aw aj aB ar aL ek ao hy q3 aG ag k2 k3 HS;go_upto_region 5 with fail;have ab:=Qaa (HN.out _ k1);clear HN k1;generalize (w2.alloc _).alloc _=W3 at ab K2 K3 ⊢;have bc:=QaG K2 0 rfl;have a6:=QaG K2 1 rfl;by_cases af:c.n=win
      · have a4:=QaG K3 0 rfl
        have a3:=Qaf K3 1 rfl;have a7:=Qaf K3 2 rfl;have a5:=Qaf K3 3 rfl;have aZ:=Qaf K3 4 rfl;have a9:=Qaf K3 5 rfl;have bb:=Qaf K3 6 rfl;have a1:=Qaf K3 7 rfl;have a0:=Qaf K3 8 rfl;have ba:=Qaf K3 9 rfl;have aT:=Qaf K3 10 rfl;have aU:=Qaf K3 11 rfl;have aR:=Qaf K3 12 rfl;have bw:(c.n == win)=true:=by simp [af]
        obtain ⟨DT,aH,aD⟩:=ab.mt;have aA:=Qaa aH;have aQ:=Qaa aD;have aP:=Qaa af
        have lT:T.length<=1048576:=by
          have:=ab.p.length_eq;have:=LL.out;simp at *; omega
        have aK:=Qcc KC;have ay:=Qaa aK
        have aO:Hid (∀ W4,W3.grownBy W4 (some w.heap.size)->W4.cell? ⟨w2.heap.size,0,none⟩=some (.int .i64 c.n)/\W4.cell? ⟨w2.heap.size,1,none⟩=some (.string c.s)):=fun W4 hg=>by
          have aJ:w2.heap.size≠w.heap.size:=by have:=HZ.out;omega
          have q:=(hg.block w2.heap.size (Array.getElem?_eq_some_iff.1 K2).1 (by simpa using aJ)).trans K2;exact ⟨QaG q 0 rfl,QaG q 1 rfl⟩
        clear af aH aD
        go_wp2_with (first
          | (at_mapUpdate;refine wpList_mapUpdate_own _ rfl _ _ _ 150 rfl 128 44 keyC underlying150 _ w.heap.size T.length _ rfl aA oC _ _ _ rfl rfl ay (Qj8 c) [] rfl ?_;intro W4 az ak;have aX:=Qaa az;have aN:=Qaa ak;obtain ⟨y0,y1⟩:=aO.out W4 ak;have aW:=Qaa (ab.rg.kept ak (by have:=am.out;simp;omega) oE);clear az ak)
          | (refine wpList_delete_ranges _ rfl _ _ 150 128 rfl 44 keyC underlying150 _ b (w.heap.size+1) n _ _ _ rfl aW _ _ rfl ay ?_;intro W5 aV ac au ai;go_frame))
        have aq:Hid (TkI w b n win L W5):=⟨_,_,_,_,_,_,ab.move am AP aP aA aQ aX aN ac ai⟩
        have an:Hid (W5.rangeLeft b (w.heap.size+1)<wr.rangeLeft b (w.heap.size+1)):=by
          show _<_
          rw [ac.left_eq];have:=av.out;omega
        clear ac au ai;go_roundw
        case rel=>exact aq
        case measure=>exact an.out
      · have bw:(c.n == win)=false:=by simp [af]
        have aq:Hid (TkI w b n win L W3):=⟨_,_,_,_,_,_,ab.stay af⟩
        have an:Hid (W3.rangeLeft b (w.heap.size+1)<wr.rangeLeft b (w.heap.size+1)):=by
          show _<_
          rw [ab.rg.left_eq];exact av.out
        clear af;go_wp2;go_roundw
        case rel=>exact aq
        case measure=>exact an.out
end
section
theorem Qo0 (hN:L.length=N) (lN:N<=1048576) (sm:∀ c∈L,AgSm c.g) (pl:∀ c∈L,PlG c.g c.p) (hA:QbG w ao L) :
    Calls prog 61 #[.slice ao N ca] w fun e w'=>∃ v M,e=.returned v/\OwnC w' w.heap.size v M/\CesO w' w.heap.size M/\M.map Ce.key=L.map Ce.key/\Bw w w':=
  (Qca hN lN sm pl hA).mono (fun e w' ⟨v,M,h1,h2,h3,h4,h5,_⟩=>⟨v,M,h1,h2,h3,h4,h5⟩)
end
variable {f:Ce->Bool}
section
theorem Qgx {F:List Ce} (hu:OwnC wr B u F) (hB:B<=wr.heap.size) (hg:(wr.alloc (.cells (Qao c) 46)).grownBy w1 u.ownBlock) (hloc:v'.ownBlock=u.ownBlock∨v'.ownBlock=some (wr.alloc (.cells (Qao c) 46)).heap.size) :
    (∀ x L,OwnC wr B x L->ApV x u->OwnC w1 B x L/\ApV x v')/\(∀ L,CesO wr B L->CesO w1 B L)/\∀ w0,Below B w0 wr->Below B w0 w1:=by
  have a1:Bw wr (wr.alloc (.cells (Qao c) 46)):=bAA;have hs:(wr.alloc (.cells (Qao c) 46)).heap.size=wr.heap.size+1:=oE
  refine ⟨fun x L hx ha=>⟨(hx.past a1).kept hg ha,fun k hk e=>?_⟩,fun L hL=>(hL.past a1).row (hu.past a1) hg,fun w0 h0=>?_⟩
  · rcases hloc with q | q
    · rw [q] at e;exact ha k hk e
    · rw [q] at e
      have:=(World.ownsRow.lt hx k hk).2;injection e with e;omega
  · have h1:Below B w0 (wr.alloc (.cells (Qao c) 46)):=h0.trans (a1.mono hB)
    refine h1.grown hg ?_ (fun j hj=>(World.ownsRow.lt hu j hj).1);rw [hs];omega
structure TaI (w wr:World) (A:List Ce) (win:Int) (k:Nat) (va vo vr:Value):Prop where
  r:OwnC wr w.heap.size va A
  f:OwnC wr w.heap.size vo ((A.take k).filter (isW win))
  s:OwnC wr w.heap.size vr ((A.take k).filter (fun c=>!isW win c))
  o:CesO wr w.heap.size A
  a1:ApV va vo
  a2:ApV va vr
  a3:ApV vo vr
  b:Bw w wr
theorem QmL (hc:A[k]?=some c) (hf:f c=true):(A.take (k+1)).filter f=(A.take k).filter f ++ [c]:=by
  rw [List.take_add_one,hc,List.filter_append];simp [hf]
theorem Qp4 (hc:A[k]?=some c) (hf:f c=false):(A.take (k+1)).filter f=(A.take k).filter f:=by
  rw [List.take_add_one,hc,List.filter_append];simp [hf]
theorem TaI.of (h:TaI w wr A win k va vo vr) (hc:A[k]?=some c) (hw:c.n=win) (hown:w1.ownsRow w.heap.size 46 15 v' (((A.take k).filter (isW win)).length+1) (flC ((A.take k).filter (isW win)) ++ ceL c)) (hg:(wr.alloc (.cells (Qao c) 46)).grownBy w1 vo.ownBlock) (hloc:v'.ownBlock=vo.ownBlock∨v'.ownBlock=some (wr.alloc (.cells (Qao c) 46)).heap.size):TaI w w1 A win (k+1) va v' vr:=by
  obtain ⟨f1,f2,f3⟩:=Qgx h.f h.b.size hg hloc;obtain ⟨q1,q2⟩:=f1 va A h.r h.a1;obtain ⟨q3,q4⟩:=f1 vr _ h.s h.a3.symm;refine ⟨q1,?_,?_,f2 A h.o,q2,h.a2,q4.symm,f3 w h.b⟩
  · rw [QmL hc xV];exact OwnC.mk hown
  · rw [Qp4 hc xV];exact q3
theorem TaI.rest (h:TaI w wr A win k va vo vr) (hc:A[k]?=some c) (hw:c.n≠win) (hown:w1.ownsRow w.heap.size 46 15 v' (((A.take k).filter (fun c=>!isW win c)).length+1) (flC ((A.take k).filter (fun c=>!isW win c)) ++ ceL c)) (hg:(wr.alloc (.cells (Qao c) 46)).grownBy w1 vr.ownBlock) (hloc:v'.ownBlock=vr.ownBlock∨v'.ownBlock=some (wr.alloc (.cells (Qao c) 46)).heap.size):TaI w w1 A win (k+1) va vo v':=by
  obtain ⟨f1,f2,f3⟩:=Qgx h.s h.b.size hg hloc;obtain ⟨q1,q2⟩:=f1 va A h.r h.a2;obtain ⟨q3,q4⟩:=f1 vo _ h.f h.a3;refine ⟨q1,?_,?_,f2 A h.o,h.a1,q2,q4,f3 w h.b⟩
  · rw [Qp4 hc xV];exact q3
  · rw [QmL hc xV];exact OwnC.mk hown
theorem QhV (h:A.length<=1048576):((A.take k).filter f).length<=1048576:=by
  have h1:=List.length_filter_le f (A.take k);have h2:=List.length_take_le k A;have h3:(A.take k).length<=A.length:=by simp;omega
  omega
theorem Qrx (w:World) (cs ds:Array Value) (h1:cs.size=0) (h2:ds.size=0) :
    Bw w ((w.alloc (.cells cs 46)).alloc (.cells ds 46))/\OwnC ((w.alloc (.cells cs 46)).alloc (.cells ds 46)) w.heap.size (.slice (some ⟨w.heap.size,0,none⟩) 0 0) []/\OwnC ((w.alloc (.cells cs 46)).alloc (.cells ds 46)) w.heap.size (.slice (some ⟨w.heap.size+1,0,none⟩) 0 0) []/\((w.alloc (.cells cs 46)).alloc (.cells ds 46)).heap.size=w.heap.size+1+1:=by
  have a1:Bw w (w.alloc (.cells cs 46)):=bAA;have a2:Below (w.alloc (.cells cs 46)).heap.size (w.alloc (.cells cs 46)) ((w.alloc (.cells cs 46)).alloc (.cells ds 46)):=bAA;have hs:(w.alloc (.cells cs 46)).heap.size=w.heap.size+1:=oE
  have k2:=OwnC.made (w.alloc (.cells cs 46)) ds h2;rw [hs] at k2;exact ⟨Qac a1 a2,(OwnC.made w cs h1).past a2,k2.le (Nat.le_succ _),by simp⟩
theorem QpX (win:Int) (hN:L.length=N) (lN:N<=1048576) (sm:∀ c∈L,AgSm c.g) (pl:∀ c∈L,PlG c.g c.p) (hA:QbG w ao L) :
    Calls prog 26 #[.slice ao N ca,.int .i64 win] w fun e w'=>∃ vo vr A,e=.returned (.tuple #[vo,vr])/\OwnC w' w.heap.size vo (A.filter (isW win))/\OwnC w' w.heap.size vr (A.filter (fun c=>!isW win c))/\ApV vo vr/\CesO w' w.heap.size A/\A.map Ce.key=L.map Ce.key/\Bw w w':=by
  obtain ⟨i0,hi,aB,au,aw⟩:=Qeb;have HA:=Qaa hA;have HN:=Qaa hN;have SM:=Qaa sm;have PL:=Qaa pl;have TR:=Qaa (Qrx w);clear hA hN sm pl;go_enter func26,ntmps26;go_wp2_with fail;obtain ⟨ar,ax,aq,aD⟩:=TR.out #[] #[] rfl rfl;have af:=Qaa ar;have ai:=Qaa ax;have ak:=Qaa aq;clear TR ar ax aq aD;generalize (w.alloc _).alloc _=W0 at af ai ak ⊢;refine (Qo0 HN lN SM PL (QaL HA af)).mono ?_;rintro e w1 ⟨va,A,rfl,hr,ho,hk,aj⟩;obtain ⟨aa,cp,rfl,_⟩:=hr.form
  have an:A.length=N:=by
    have:=congrArg List.length hk;simp at this;rw [this];exact HN.out
  have HK:=Qaa hk;have ag:=Qaa an;rw [an] at hr ⊢
  have I0:Hid (TaI w w1 A win 0 (.slice aa N cp) (.slice (some ⟨w.heap.size,0,none⟩) 0 0) (.slice (some ⟨w.heap.size+1,0,none⟩) 0 0)):=by
    have ay:∀ k,(Value.slice aa N cp).ownBlock=some k->W0.heap.size<=k:=fun k q=>(World.ownsRow.lt hr k q).1;refine ⟨hr.le af.size,ai.past aj,ak.past aj,ho.le af.size,fun k q e=>?_,fun k q e=>?_,fun k q e=>?_,Qac af aj⟩
    · have f1:=ay k q
      have f2:=(World.ownsRow.lt ai k e).2;omega
    · have f1:=ay k q
      have f2:=(World.ownsRow.lt ak k e).2;omega
    · injection q with q
      injection e with e;simp only at q e;omega
  clear hr ho hk aj an ai ak af;go_wp2
  go_loopw [6,7,9] (fun vo vr i wr=>∃ (k:Nat),k<=N/\i=.int .i64 k/\Hid (TaI w wr A win k (.slice aa N cp) vo vr)) (fun vo vr i wr=>N - (Go.RowKit.intOf i).toNat)
  case atStart=>exact ⟨0,ZZj _,rfl,I0⟩
  case round=>
    clear I0;obtain ⟨k,hk,rfl,HI⟩:=hrel;by_cases aG:k<N
    · obtain ⟨c,hc⟩:∃ c,A[k]?=some c:=⟨A[k]'(oA ag.out),ZZe _⟩
      have al:=HI.r;rw [<- ag.out] at al;obtain ⟨b,aC,e,ae⟩:=(OwnC.at al HI.o.at).1 (oA ag.out);subst e;obtain ⟨x0,x1,x2,x3,x4,x5,x6,x7,x8,x9,aM,aJ,aK,aL,aH⟩:=ae k c hc;have HC:=Qaa hc;have aE:(k:Int)<(N:Int):=oB
      have aI:w.heap.size<=wr.heap.size:=HI.b.size;have av:((A.take k).filter (isW win)).length<=1048576:=QhV (oA ag.out);have aA:((A.take k).filter (fun c=>!isW win c)).length<=1048576:=QhV (oA ag.out);have ap:=Qaa av;have az:=Qaa aA;clear ae hc al av aA;by_cases hw:c.n=win
      · have bw:(c.n == win)=true:=by simp [hw]
        have ah:Hid (∀ v' w3,w3.ownsRow w.heap.size 46 15 v' (((A.take k).filter (isW win)).length+1) (flC ((A.take k).filter (isW win)) ++ ceL c)->(wr.alloc (.cells (Qao c) 46)).grownBy w3 u6.ownBlock->(v'.ownBlock=u6.ownBlock∨v'.ownBlock=some (wr.alloc (.cells (Qao c) 46)).heap.size)->TaI w w3 A win (k+1) (.slice (some ⟨b,aC,none⟩) N cp) v' u7):=fun v' w3 q1 q2 q3=>HI.of HC hw q1 q2 q3;clear hw;go_wp2_with (at_builtin;refine wpList_append_own_at _ rfl _ _ 27 rfl w.heap.size 46 i0 (.agg Qbo) 15 192 underlying27 hi aB au aw rfl oF _ _ _ rfl (World.ownsRow.alloc HI.f _) ⟨wr.heap.size,0,none⟩ 1 1 (ceL c) rfl rfl ?c1 ?c2 ?c3 ?c4 ?c5 ?_)
        case c1=>exact QbD
        case c2=>exact QcG _
        case c3=>have:=ap.out;unfold maxLen;omega
        case c4=>have:=ap.out;omega
        case c5=>simp;omega
        intro v' w3 ab ac _ ad;have am:=Qaa (ah.out v' w3 ab ac (by simpa using ad));clear ab ac ad ah;go_wp2;go_roundw
        case rel=>exact ⟨k+1,by omega,by go_num,am⟩
        case measure=>simp [zI];omega
      · have bw:(c.n == win)=false:=by simp [hw]
        have ah:Hid (∀ v' w3,w3.ownsRow w.heap.size 46 15 v' (((A.take k).filter (fun c=>!isW win c)).length+1) (flC ((A.take k).filter (fun c=>!isW win c)) ++ ceL c)->(wr.alloc (.cells (Qao c) 46)).grownBy w3 u7.ownBlock->(v'.ownBlock=u7.ownBlock∨v'.ownBlock=some (wr.alloc (.cells (Qao c) 46)).heap.size)->TaI w w3 A win (k+1) (.slice (some ⟨b,aC,none⟩) N cp) u6 v'):=fun v' w3 q1 q2 q3=>HI.rest HC hw q1 q2 q3;clear hw;go_wp2_with (at_builtin;refine wpList_append_own_at _ rfl _ _ 27 rfl w.heap.size 46 i0 (.agg Qbo) 15 192 underlying27 hi aB au aw rfl oF _ _ _ rfl (World.ownsRow.alloc HI.s _) ⟨wr.heap.size,0,none⟩ 1 1 (ceL c) rfl rfl ?c1 ?c2 ?c3 ?c4 ?c5 ?_)
        case c1=>exact QbD
        case c2=>exact QcG _
        case c3=>have:=az.out;unfold maxLen;omega
        case c4=>have:=az.out;omega
        case c5=>simp;omega
        intro v' w3 ab ac _ ad;have am:=Qaa (ah.out v' w3 ab ac (by simpa using ad));clear ab ac ad ah;go_wp2;go_roundw
        case rel=>exact ⟨k+1,by omega,by go_num,am⟩
        case measure=>simp [zI];omega
    · have eL:A.take k=A:=List.take_of_length_le (oA ag.out)
      have q1:=HI.f;have q2:=HI.s;rw [eL] at q1 q2;have HQ:=Qaa (And.intro q1 q2);have HO:=Qaa (And.intro HI.o HI.b);have aF:=Qaa HI.a3;clear eL q1 q2;go_wp2;go_ret2;exact ⟨_,_,A,rfl,HQ.1,HQ.2,aF,HO.1,HK,HO.2⟩
end
section
theorem QpB {n:Int} (h:Qf7 n=true):I64 n:=by
  unfold Qf7 at h;simp only [yB,decide_eq_true_eq] at h;unfold I64;omega
theorem QuW (h:cRi c=true):Qf7 c.n=true:=by
  unfold cRi at h;simp only [yB] at h;exact h.1.1.1
theorem Qia (h:ShI w ao N L) (r:csR L=true):∀ c∈L,Qdc c.n c.s:=fun c hc=>⟨QpB (QuW ((csR_iff.1 r).2.1 c hc)),h.ss c hc⟩
theorem Qb9 {win:Int}:∀ {L M:List Ce},M.map Ce.key=L.map Ce.key->(M.filter (isW win)).map Ce.key=(L.filter (isW win)).map Ce.key/\(M.filter (fun c=>!isW win c)).map Ce.key=(L.filter (fun c=>!isW win c)).map Ce.key
  | [],[],_=>⟨rfl,rfl⟩
  | c :: L,d :: M,h=>by
    simp only [List.map_cons,List.cons.injEq] at h;obtain ⟨q1,q2⟩:=Qb9 (win:=win) h.2
    have e:isW win d=isW win c:=by
      obtain ⟨q,rfl⟩:=Qh0 h.1
      rfl
    simp only [List.filter_cons,e]
    cases isW win c <;> simp [q1,q2,h.1]
  | [],_ :: _,h=>by simp at h
  | _ :: _,[],h=>by simp at h
structure ShO (w:World) (B:Nat) (v:Value) (nm:ByteArray) (R O:List Ce) (code:Int):Prop where
  ex:∃ vr vo,v=.agg #[.string nm,vr,vo,.int .i64 code]/\OwnC w B vr R/\OwnC w B vo O/\ApV vr vo
  o:CesO w B (R ++ O)
theorem ShO.none (w:World) (B:Nat) (code:Int):ShO w B (.agg #[.string ⟨#[]⟩,.slice none 0 0,.slice none 0 0,.int .i64 code]) ⟨#[]⟩ [] [] code:=
  ⟨⟨_,_,rfl,OwnC.nil _ _,OwnC.nil _ _,fun k h=>by cases h⟩,CesO.nil _ _⟩
def TkA (nm:ByteArray) (L:List Ce) (win:Int) (nm':ByteArray) (R O:List Ce) (code:Int):Prop:=
  if shB nm L=true/\Qf7 win=true then nm'=nm/\R.map Ce.key=(L.filter (fun c=>!isW win c)).map Ce.key/\O.map Ce.key=(L.filter (isW win)).map Ce.key/\code=0 else nm'=⟨#[]⟩/\R=[]/\O=[]/\code=1
theorem TkA.no (h:¬ (shB nm L=true/\Qf7 win=true)):TkA nm L win ⟨#[]⟩ [] [] 1:=by
  unfold TkA;rw [if_neg h];exact ⟨rfl,rfl,rfl,rfl⟩
theorem TkA.yes {O:List Ce} (h:shB nm L=true) (k:Qf7 win=true) (h1:R.map Ce.key=(L.filter (fun c=>!isW win c)).map Ce.key) (h2:O.map Ce.key=(L.filter (isW win)).map Ce.key):TkA nm L win nm R O 0:=by
  unfold TkA;rw [if_pos ⟨h,k⟩];exact ⟨rfl,h1,h2,rfl⟩
theorem Qo4 (h:shB nm L=true):csR L=true:=by
  unfold shB at h;simp only [yB] at h;exact h.2
def TkP (w:World) (nm:ByteArray) (L:List Ce) (win:Int) (e:Ending) (w':World):Prop:=∃ v nm' R O code,e=.returned v/\TkA nm L win nm' R O code/\ShO w' w.heap.size v nm' R O code/\Bw w w'
theorem box_sh (w:World) (nm:ByteArray) (v:Value):Hid (Bw w ((w.alloc (.cells #[.string nm,v] 71)).alloc (.cells zAb 105)))/\Hid (((w.alloc (.cells #[.string nm,v] 71)).alloc (.cells zAb 105)).heap[w.heap.size]?=some (.cells #[.string nm,v] 71 (0,0)))/\Hid (((w.alloc (.cells #[.string nm,v] 71)).alloc (.cells zAb 105)).heap[w.heap.size+1]?=some (.cells zAb 105 (0,0)))/\Hid (((w.alloc (.cells #[.string nm,v] 71)).alloc (.cells zAb 105)).heap.size=w.heap.size+2):=by
  have a1:∀ (X:World) o,Bw X (X.alloc o):=fun X o=>bAA;have k0:=ZZk w (.cells #[.string nm,v] 71);have k1:=ZZk (w.alloc (.cells #[.string nm,v] 71)) (.cells zAb 105);simp only [World.size_alloc] at k1;exact ⟨Qaa (Qac (a1 _ _) (a1 _ _)),Qaa (((a1 _ _).block _ oE).trans k0),Qaa k1,Qaa oE⟩
theorem OwnC.setNe (h:OwnC w B v L) (hr:r<B) (u:Value):OwnC (w.setCell ⟨r,j,none⟩ u) B v L:=
  World.ownsRow.kept (row:=some r) h ⟨rfl,rfl,rfl,(KeepsWalks.setCell w _ u).size,fun i _ hk=>Below.heap_setCell _ _ _ i (fun e=>hk xP)⟩ (by
    cases q:v.ownBlock with
    | none=>exact .inl rfl
    | some j=>exact .inr (fun e=>by
        have:=(World.ownsRow.lt h j q).1;injection e with e;omega))
theorem CesO.setNe (h:CesO w B L) (hr:r<B) (u:Value):CesO (w.setCell ⟨r,j,none⟩ u) B L:=⟨fun c hc=>(h.o c hc).below hr u,h.ap⟩
theorem Qn6 (A:List Ce) (win:Int):A.Perm (A.filter (fun c=>!isW win c) ++ A.filter (isW win)):=
  ((List.perm_append_comm).trans (List.filter_append_perm (isW win) A)).symm
theorem Qe4 (nm:ByteArray) (win:Int) (hs:nm.size<=maxLen) (hm:MX w) (hI:ShI w ao N L) :
    Calls prog 58 #[.agg #[.string nm,.slice ao N ca],.int .i64 win] w (TkP w nm L win):=by
  obtain ⟨k0,k1,k2,k3⟩:=box_sh w nm (.slice ao N ca);have II:=Qaa hI;have HM:=Qaa hm;clear hI hm;go_enter func58,ntmps58;have z0:=QaG k1 0 rfl;have z1:=QaG k1 1 rfl;go_wp2_with fail;clear z0 z1;generalize (w.alloc _).alloc _=W0 at k0 k1 k2 k3 ⊢;refine (Qed nm hs II.hN II.lN II.ok II.sm II.ss (HM.past k0) (QaL II.mem k0)).mono ?_;rintro e w1 ⟨rfl,af⟩;have ab:=Qaa (Qac k0 af);have k4:=Qaa ((af.block _ (ZZc.1 k1).1).trans k1);have k5:=Qaa ((af.block _ (ZZc.1 k2).1).trans k2);have k6:Hid (w.heap.size+2<=w1.heap.size):=by show _<=_;have:=af.size;have:=k3.out;omega
  clear af k0 k1 k2 k3;obtain ⟨f0,f1,f2,f3⟩:=fA4 k5;obtain ⟨y0,y1,y2,y3⟩:=cA4 k5;have aa:Hid (∀ W j u,Bw w W->Bw w (W.setCell ⟨w.heap.size+1,j,none⟩ u)):=fun W j u q=>q.setCell (Nat.le_succ _) u
  cases h1:shB nm L with
  | false=>
    have HA:Hid (TkA nm L win ⟨#[]⟩ [] [] 1):=TkA.no (fun q=>by rw [h1] at q;cases q.1);clear h1;exact mBb
  | true=>
    clear f0 f1 f2 f3 y0 y1 y2 y3;go_wp2_with fail;refine (QeL win _).mono ?_;rintro e wz ⟨rfl,aF⟩;obtain rfl:=aF.symm
    cases h2:Qf7 win with
    | false=>
      have HA:Hid (TkA nm L win ⟨#[]⟩ [] [] 1):=TkA.no (fun q=>by rw [h2] at q;cases q.2);obtain ⟨f0,f1,f2,f3⟩:=fA4 k5;obtain ⟨y0,y1,y2,y3⟩:=cA4 k5;clear h1 h2;exact mBb
    | true=>
      have H1:=Qaa h1;have H2:=Qaa h2;have x0:=QaG k4 0 rfl;have x1:=QaG k4 1 rfl;clear h1 h2;go_wp2_with fail;clear x0 x1;have RK:=Qaa (Qia II (Qo4 H1));have RA:=Qaa (csR_iff.1 (Qo4 H1)).2.2;refine (Qk1 II.hN II.lN RA.ap RK II.sm II.pl (QaL II.mem ab)).mono ?_;rintro e w2 ⟨M,rfl,aE,aj,hO,ae⟩;have KY:=Qaa aj;have AM:=Qaa (Qek aj RA);have aC:M.length<=1048576:=by rw [Qg7 aj,II.hN];exact II.lN
      have LM:=Qaa aC;have aA:=Qaa aE;have HO:=Qaa hO;have am:=Qaa (Qac ab ae);have k7:=Qaa ((ae.block _ (ZZc.1 k4).1).trans k4);have k8:=Qaa ((ae.block _ (ZZc.1 k5).1).trans k5);have aK:=ae.size;clear aE aj hO ae k4 k5 RK aC;go_wp2_with fail;refine (c_take win aA LM).mono ?_;rintro e w3 ⟨m3,rfl,hT,hS,ad⟩;have aH:Hid (Bw w w3):=am.grown ad am.size (fun j hj=>by cases hj;exact ab.size);have aI:=Qaa (HO.grown ad (Nat.lt_succ_self _));have ay:w.heap.size≠w1.heap.size:=by have:=k6.out;omega
      have ah:w.heap.size+1≠w1.heap.size:=by have:=k6.out;omega
      have k9:=Qaa ((ad.block _ (Array.getElem?_eq_some_iff.1 k7).1 (by simpa using ay)).trans k7);have aw:=Qaa ((ad.block _ (Array.getElem?_eq_some_iff.1 k8).1 (by simpa using ah)).trans k8);have HT:=Qaa hT;have HS:=Qaa hS;have aJ:=ad.size;have aL:Hid (w.heap.size+2<=w3.heap.size):=by show _<=_;have:=k6.out;omega
      have aN:Hid (w1.heap.size<=w3.heap.size):=by show _<=_;omega
      clear hT hS ad k7 k8 ay ah aK aJ aA HO am;go_upto_region 5 with fail;generalize w2.heap.size=t at HT ⊢;have ac:(fun W=>Bw w3 W) w3.drew:=(ZZb _ _).drew;refine Qal (fun W=>Bw w3 W) 8 oG ?_;refine tkS 0 (.pointer (some ⟨w.heap.size,0,none⟩)) ac ?_;refine tkL 1 (.string nm) ac (fun W hW=>?_) ?_
      · have x0:=Qab hW (QaG k9 0 rfl)
        exact mAo
      refine tkS 2 (.map (some w1.heap.size)) ac ?_;simp only [sX];refine tkS 5 (.map (some t)) ac ?_;simp only [sX];refine onE 3 fun K hK=>?_;go_simp;refine (Qt5 (HS.past (ac:Bw w3 w3.drew)) (AM.filter _) (by have:=List.length_filter_le (fun c=>!isW win c) M;have:=LM.out;omega)).mono ?_;rintro e w4 ⟨vr,rfl,hr,av⟩;have ai:Hid (Bw w3 w4):=(ac:Bw w3 w3.drew).trans (av.mono (ZZa _));have au:=Qaa hr;clear hr av;dsimp only;refine gK hK ai.out ?_
      try simp only [sX]
      obtain ⟨ar,cr,rfl,_⟩:=au.form;refine tkS 4 (.agg #[.string nm,.slice ar (M.filter (fun c=>!isW win c)).length cr]) ai ?_;simp only [sX];refine onE 6 fun K hK=>?_;go_simp;refine (Qt5 (HT.past ai) (AM.filter _) (by have:=List.length_filter_le (isW win) M;have:=LM.out;omega)).mono ?_;rintro e w5 ⟨vo,rfl,ho,ak⟩;have ag:Hid (Bw w3 w5):=Qac ai ak;have aB:=Qaa ho;have aG:=Qaa (au.past ak);have aM:Hid (ApV (.slice ar (M.filter (fun c=>!isW win c)).length cr) vo):=fun k q1 q2=>by have f1:=(World.ownsRow.lt au k q1).2;have f2:=(World.ownsRow.lt ho k q2).1;omega
      clear ho ak;dsimp only;refine gK hK ag.out ?_
      try simp only [sX]
      obtain ⟨ap,cq,rfl,_⟩:=aB.form;refine tkS 7 (.agg #[.string nm,.slice ar (M.filter (fun c=>!isW win c)).length cr,.slice ap (M.filter (isW win)).length cq,.int .i64 0]) ag ?_;simp only [sX];have ax:=Qaa ((ag.block _ (ZZc.1 aw).1).trans aw);obtain ⟨f0,f1,f2,f3⟩:=fA4 ax;obtain ⟨y0,y1,y2,y3⟩:=cA4 ax;refine onE 8 fun K hK=>?_;go_simp;refine hK.out _ _ (fun h=>absurd rfl h) ?_
      try simp only [sX]
      refine dnE ?_ _;go_wp2;obtain ⟨q1,q2⟩:=Qb9 (win:=win) KY;have az:w.heap.size+1<w3.heap.size:=by have:=aL.out;omega
      have aD:w.heap.size<=w3.heap.size:=oB
      have al:w.heap.size+1<w1.heap.size+1:=by have:=k6.out;omega
      have aq:w.heap.size<=w1.heap.size+1:=by have:=k6.out;omega
      have an:w3.heap.size<=w4.heap.size:=ai.size;refine bodyPost_ret (v:=.agg #[.string nm,.slice ar (M.filter (fun c=>!isW win c)).length cr,.slice ap (M.filter (isW win)).length cq,.int .i64 0]) (by simp [results,results58,go_sem,y0,y1,y2,y3]) rfl ?_;refine show TkP _ _ _ _ _ _ from ⟨_,_,_,_,_,rfl,TkA.yes H1 H2 q2 q1,⟨⟨_,_,rfl,?_,?_,aM⟩,?_⟩,?_⟩
      · refine OwnC.le ?_ aD
        repeat (refine OwnC.setNe ?_ az _)
        exact aG.out
      · refine OwnC.le ?_ aD
        repeat (refine OwnC.setNe ?_ az _)
        exact aB.le an
      · refine CesO.le ?_ aq
        repeat (refine CesO.setNe ?_ al _)
        exact (aI.past ag).perm (Qn6 M win)
      · repeat (refine aa.out _ _ _ ?_)
        exact Qac aH ag
end
end Go.Proofs.YtioohanfodmddaaGreatDoor
