/-
 Parts.
-/
import Derived.Test.YtlejlgldgafljaaGreatDoorKXB
import Derived.Deep.Draws
import Derived.Laws.CopyOwn
import Derived.Sort.Grow
set_option maxRecDepth 10000
set_option maxHeartbeats 8000000
set_option linter.all false
namespace Go.Proofs.YtlejlgldgafljaaGreatDoor
open Go.ChangeShapes Go.WideShapes Go.ChangeAt Go.RowKit Go.PlainAid Go.Lib Go.Maps Go.Shelf Tryz
open Go.Sort hiding Below
section
structure Grw (w w':World):Prop where
 b:Below w.heap.size w w'
 d:w.drawn<=w'.drawn
end
variable {w:World}
variable {B c cp g i n:Nat}
section
theorem Qew {s:Nat} {e:TypeId} {v:Value} {xs:List Value} (h:w.ownsRow B e s v n xs):∃ ao c,v=.slice ao n c:=by
 rcases h.2 with ⟨rfl,rfl⟩ | ⟨g,c,_,rfl,_⟩
 ·exact ⟨none,0,rfl⟩
 ·exact ⟨_,c,rfl⟩
end
variable {L:List Int}
variable {ao:Option Addr}
section
theorem QjM {kd:IntKind} {b off:Nat} (h:QaC kd w (some ⟨b,off,none⟩) L):∀ j u,(L.map (Value.int kd))[j]?=some u->w.cell? ⟨b,off+j,none⟩=some u:=fun j u hu=>by
 rw [List.getElem?_map] at hu;obtain ⟨x,hx,rfl⟩:=Option.map_eq_some_iff.1 hu;obtain ⟨b',off',e,hc⟩:=h (by have:=(ZZd.1 hx).1;omega)
 cases e
 exact hc j x hx
theorem sizeU (w:World):(Go.sizeOf 62).run prog w=.ok 1 w:=Tryz.sizeOf62 w
theorem sizeI (w:World):(Go.sizeOf 2).run prog w=.ok 1 w:=Tryz.sizeOf2 w
theorem Qrm (hn:L.length=n) (hl:n<=1048576) (hf:Qo3 ao) (hA:QaC .u64 w ao L) :
  Calls prog 174 #[.slice ao n c] w fun e w'=>∃ v,e=.returned v/\w'.ownsRow w.heap.size 62 1 v L.length (L.map (Value.int .u64))/\Below w.heap.size w w':=by
 obtain ⟨i0,hi,ab,ac,aa⟩:=info_parts Qd4;rcases hf with rfl | ⟨b,ad,rfl⟩
 ·obtain rfl:=Qio hA
  refine (Tryz.slices_Clone_nil_f174 _ _ _).mono ?_;rintro e w' ⟨rfl,rfl⟩;exact ⟨_,rfl,World.ownsRow_nil _ _ _ _,ZZb _ _⟩
 ·refine (Tryz.slices_Clone_f174 i0 _ 1 8 hi ab ac aa rfl (by omega) sizeU b ad n c (L.map (Value.int .u64)) w (by simp [hn]) (by unfold maxLen;omega) (by omega) (QjM hA) (by intro v hv;simp at hv;obtain ⟨x,_,rfl⟩:=hv;rfl)).mono ?_
  rintro e w' ⟨v,rfl,ho,_,hb⟩;exact ⟨v,rfl,by rw [hn];exact ho,hb⟩
theorem QqR (hn:L.length=n) (hl:n<=1048576) (hf:Qo3 ao) (hA:QaC .i64 w ao L) :
  Calls prog 175 #[.slice ao n c] w fun e w'=>∃ v,e=.returned v/\w'.ownsRow w.heap.size 2 1 v L.length (L.map (Value.int .i64))/\Below w.heap.size w w':=by
 obtain ⟨i0,hi,ab,ac,aa⟩:=info_parts Qfi;rcases hf with rfl | ⟨b,ad,rfl⟩
 ·obtain rfl:=Qio hA
  refine (Tryz.slices_Clone_nil_f175 _ _ _).mono ?_;rintro e w' ⟨rfl,rfl⟩;exact ⟨_,rfl,World.ownsRow_nil _ _ _ _,ZZb _ _⟩
 ·refine (Tryz.slices_Clone_f175 i0 _ 1 8 hi ab ac aa rfl (by omega) sizeI b ad n c (L.map (Value.int .i64)) w (by simp [hn]) (by unfold maxLen;omega) (by omega) (QjM hA) (by intro v hv;simp at hv;obtain ⟨x,_,rfl⟩:=hv;rfl)).mono ?_
  rintro e w' ⟨v,rfl,ho,_,hb⟩;exact ⟨v,rfl,by rw [hn];exact ho,hb⟩
theorem Qof {ea ra:Option Addr} {m d:Nat} {E R:List Int} (h1:E.length=n) (h2:R.length=m) (l1:n<=1048576) (l2:m<=1048576) (f1:Qo3 ea) (f2:Qo3 ra) (hE:QaC .u64 w ea E) (hR:QaC .i64 w ra R) :
  Calls prog 138 #[.agg #[.slice ea n c,.slice ra m d]] w fun e w'=>∃ v,e=.returned v/\QsJ w' w.heap.size v E R/\Below w.heap.size w w':=by
 have HE:=Qaa hE;have HR:=Qaa hR;have F1:=Qaa f1;have F2:=Qaa f2;have H1:=Qaa h1;have H2:=Qaa h2;have am:Hid (∀ o1 o2,Below w.heap.size w ((w.alloc o1).alloc o2)):=fun o1 o2=>((Below.refl _ _).alloc (Nat.le_refl _) _).alloc (by simp) _;clear hE hR f1 f2 h1 h2;go_enter func138,ntmps138;go_wp2_with fail;generalize hW0:(w.alloc (Obj.cells #[.slice ea n c,.slice ra m d] 71)).alloc (Obj.cells #[.slice none 0 0,.slice none 0 0] 71)=W0;have T0:Below w.heap.size w W0:=by rw [<- hW0];exact am.out _ _
 have KR:=Qiz w 71 71 (.slice ea n c) (.slice ra m d) (.slice none 0 0) (.slice none 0 0) W0 (by rw [hW0];exact Below.refl _ _);have an:W0.heap.size=w.heap.size+2:=by rw [<- hW0];simp
 clear hW0;have ad:=Qaa T0;have hC:∀ W,Below W0.heap.size W0 W->Qck W w.heap.size (.slice ea n c) (.slice ra m d)/\W.heap[w.heap.size+1]?=some (.cells #[.slice none 0 0,.slice none 0 0] 71 (0,0)):=fun W hW=>⟨QgA KR.1 hW,by rw [hW.block _ (by omega)];exact KR.2⟩;have HC:=Qaa hC;clear T0 hC KR;have aa:(fun W=>Below W0.heap.size W0 W) W0.drew:=(ZZb _ _).drew;refine Qal (fun W=>Below W0.heap.size W0 W) 7 (by kernel_rfl) ?_;refine tkL 0 (.pointer (some ⟨w.heap.size,0,none⟩)) aa (fun W hW=>?_) ?_
 ·obtain ⟨⟨x0,x1⟩,_⟩:=HC.out W hW
  go_simp
 refine tkL 1 (.slice ea n c) aa (fun W hW=>?_) ?_
 ·obtain ⟨⟨x0,x1⟩,_⟩:=HC.out W hW
  go_simp
 refine tkL 3 (.pointer (some ⟨w.heap.size,1,none⟩)) aa (fun W hW=>?_) ?_
 ·obtain ⟨⟨x0,x1⟩,_⟩:=HC.out W hW
  go_simp
 simp only [sX];refine tkL 4 (.slice ra m d) aa (fun W hW=>?_) ?_
 ·obtain ⟨⟨x0,x1⟩,_⟩:=HC.out W hW
  go_simp
 simp only [sX];refine onE 2 fun K hK=>?_;go_simp;refine (Qrm H1 l1 F1 (Qak HE (ad.out.trans ((ZZb _ _).drew.mono ad.out.size)))).mono ?_;rintro e w1 ⟨v1,rfl,ah,ak⟩;dsimp only;have ac:=Qaa ((aa:Below W0.heap.size W0 W0.drew).trans ak);have ao:=Qaa (Qbv (B':=W0.heap.size) ah (by show W0.heap.size<=W0.heap.size;omega));obtain ⟨ai,c1,rfl⟩:=Qew ah;clear ah ak;refine gK hK ac.out ?_
 try simp only [sX]
 refine onE 5 fun K hK=>?_;go_simp;refine (QqR H2 l2 F2 (Qak HR (Qac ad ac))).mono ?_;rintro e w2 ⟨v2,rfl,ae,af⟩;dsimp only;have ab:=Qaa (Qac ac af);have al:=Qaa (Qbv (B':=W0.heap.size) ae ac.out.size);have ag:=Qaa (QaY ao af);obtain ⟨aj,c2,rfl⟩:=Qew ae;clear ae af;refine gK hK ab.out ?_
 try simp only [sX]
 refine tkS 6 (.agg #[.slice ai E.length c1,.slice aj R.length c2]) ab ?_;simp only [sX];have R2:=(HC.out _ ab).2;have q0:w2.cell? ⟨w.heap.size+1,0,none⟩=some (.slice none 0 0):=by rw [cell_of_row _ _ 0 _ _ (0,0) R2];rfl
 have q1:w2.cell? ⟨w.heap.size+1,1,none⟩=some (.slice none 0 0):=by rw [cell_of_row _ _ 1 _ _ (0,0) R2];rfl
 have f0:=fzR 0 R2;have f1:=fzR 1 R2;refine onE 7 fun K hK=>?_;go_simp;refine hK.out _ _ (fun h=>absurd rfl h) ?_
 try simp only [sX]
 refine dnE ?_ _;go_wp2;refine bodyPost_ret (v:=.agg #[.slice ai E.length c1,.slice aj R.length c2]) (by simp [results,results138,go_sem,q0,q1]) rfl ⟨_,rfl,⟨_,_,rfl,?_,?_⟩,?_⟩
 ·refine Qbv (B:=W0.heap.size) ?_ (by omega)
  repeat (refine ownsRow_setCell_below ?_ (by simp;omega) _)
  exact ag.out
 ·refine Qbv (B:=W0.heap.size) ?_ (by omega)
  repeat (refine ownsRow_setCell_below ?_ (by simp;omega) _)
  exact al.out
 ·repeat (refine Below.setCell ?_ (by simp <;> omega) _)
  exact Qac ad ab
end
section
theorem Qns {L:List Bn} (c n:Nat) (hn:L.length=n) (hl:n<=1048576) (hA:QaO w ao L) :
  Calls prog 173 #[.slice ao n c] w fun e w'=>∃ v,e=.returned v/\OwnB w' w.heap.size v n L/\Below w.heap.size w w':=by
 obtain ⟨i0,hi,ah,ai,ag⟩:=info_parts Qkq
 cases ao with
 | none=>
  have h0:n=0:=by
   rcases Nat.eq_zero_or_pos n with h | h
   ·exact h
   ·obtain ⟨b,ac,e,_⟩:=hA (by omega);cases e
  subst h0;have hq:=fun W=>Lib.run_eql_slice_nil (P:=prog) W 65 181 none 0 c 0 0 underlying65;have HN:=Qaa hn;clear hA hn;go_enter func173,ntmps173;go_wp2;go_ret;exact ⟨_,rfl,⟨HN.out.symm,.inl ⟨rfl,rfl⟩⟩,ZZb _ _⟩
 | some A=>
  have af:∀ j z,(fl QcL L)[j]?=some z->w.cell? (A.add j)=some z:=fun j z hz=>by
   have hj:=(ZZd.1 hz).1;rw [Qdq QdQ] at hj;obtain ⟨b,ac,e,ae⟩:=hA (by omega)
   cases e
   obtain ⟨x,hx⟩:∃ x,L[j / 2]?=some x:=⟨L[j / 2]'(by omega),ZZe (by omega)⟩;have h1:=QdN QdQ L (j / 2) x (j % 2) (by omega) hx;rw [show j / 2*2+j % 2=j by omega,hz] at h1;have hc:=ae (j / 2) x hx;rw [Addr.add_lit];have:j % 2=0∨j % 2=1:=by omega
   rcases this with e | e
   ·rw [e] at h1;rw [show ac+j=ac+j / 2*2 by omega,hc.1];simpa [QcL] using h1.symm
   ·rw [e] at h1;rw [show ac+j=ac+j / 2*2+1 by omega,hc.2];simpa [QcL] using h1.symm
  have aj:=Qaa af;have hq:=fun W=>Lib.run_eql_slice_nil (P:=prog) W 65 181 (some A) n c 0 0 underlying65;have HN:=Qaa hn;clear hA af hn;go_enter func173,ntmps173;go_wp2_with (at_builtin;refine wpList_append_own _ rfl (.tmp 5) (.tmp 6) 65 rfl w.heap.size 181 i0 (.agg #[.int .i64 0,.int .u64 0]) 2 16 underlying65 hi ah ai ag rfl (by decide) _ _ _ rfl (World.ownsRow_made _ #[] 0 (Nat.le_refl _) (Nat.zero_le _) rfl) A n c (fl QcL L) rfl (by rw [Qdq QdQ,HN.out]) (fun j z hz=>by have:=aj.out j z hz;exact Qcc this _) (Qgb _) (by unfold maxLen;omega) (by omega) (by simp) ?_;intro v1 w1 ab aa ad;simp only [Nat.zero_add,List.nil_append] at ab;have O1:=Qaa ab;have B1:=Qaa (((Below.refl _ _).alloc (Nat.le_refl _) _).grown aa (by simp) (fun j hj=>by cases hj;exact Nat.le_refl _));clear ab aa ad);go_ret;exact ⟨_,rfl,OwnB.of O1 HN.out.symm,B1⟩
theorem QjH {z h l:Int} {pa na:Option Addr} {pn pc nn nc:Nat} {P N:List Bn} (hp:P.length=pn) (hn:N.length=nn) (lp:pn<=1048576) (ln:nn<=1048576) (hP:QaO w pa P) (hN:QaO w na N) :
  Calls prog 137 #[.agg #[.int .u64 z,.slice pa pn pc,.slice na nn nc,.int .i64 h,.int .u64 l]] w fun e w'=>∃ v,e=.returned v/\Qp8 w' w.heap.size v z P N h l/\Below w.heap.size w w':=by
 have HP:=Qaa hP;have HN:=Qaa hN;clear hP hN;go_enter func137,ntmps137;go_wp2_with fail;generalize hW0:(w.alloc (Obj.cells #[.int .u64 z,.slice pa pn pc,.slice na nn nc,.int .i64 h,.int .u64 l] 67)).alloc (Obj.cells QbH 67)=W0;have T0:Below w.heap.size w W0:=by rw [<- hW0];exact ((Below.refl _ _).alloc (Nat.le_refl _) _).alloc (by simp) _
 have K0:Qer W0 w.heap.size z (.slice pa pn pc) (.slice na nn nc) h l:=by rw [<- hW0];exact Qd5 (Qr6 w _ _ _ _ _ _) ((ZZb _ _).alloc (ZZa _) _)
 have R0:W0.heap[w.heap.size+1]?=some (.cells QbH 67 (0,0)):=by rw [<- hW0];simpa using heap_alloc_new (w.alloc (Obj.cells #[.int .u64 z,.slice pa pn pc,.slice na nn nc,.int .i64 h,.int .u64 l] 67)) (Obj.cells QbH 67)
 have ap:W0.heap.size=w.heap.size+2:=by rw [<- hW0];simp
 clear hW0;have ag:=Qaa T0;have hC:∀ W,Below W0.heap.size W0 W->Qer W w.heap.size z (.slice pa pn pc) (.slice na nn nc) h l/\W.heap[w.heap.size+1]?=some (.cells QbH 67 (0,0)):=fun W hW=>⟨Qd5 K0 hW,by rw [hW.block _ (by omega)];exact R0⟩;have HC:=Qaa hC;clear T0 hC K0 R0;have aa:(fun W=>Below W0.heap.size W0 W) W0.drew:=(ZZb _ _).drew;refine Qal (fun W=>Below W0.heap.size W0 W) 11 (by kernel_rfl) ?_;refine tkL 0 (.pointer (some ⟨w.heap.size,0,none⟩)) aa (fun W hW=>?_) ?_
 ·obtain ⟨⟨x0,x1,x2,x3,x4⟩,_⟩:=HC.out W hW
  go_simp
 refine tkL 1 (.int .u64 z) aa (fun W hW=>?_) ?_
 ·obtain ⟨⟨x0,x1,x2,x3,x4⟩,_⟩:=HC.out W hW
  go_simp
 refine tkL 2 (.pointer (some ⟨w.heap.size,1,none⟩)) aa (fun W hW=>?_) ?_
 ·obtain ⟨⟨x0,x1,x2,x3,x4⟩,_⟩:=HC.out W hW
  go_simp
 simp only [sX];refine tkL 3 (.slice pa pn pc) aa (fun W hW=>?_) ?_
 ·obtain ⟨⟨x0,x1,x2,x3,x4⟩,_⟩:=HC.out W hW
  go_simp
 refine tkL 5 (.pointer (some ⟨w.heap.size,2,none⟩)) aa (fun W hW=>?_) ?_
 ·obtain ⟨⟨x0,x1,x2,x3,x4⟩,_⟩:=HC.out W hW
  go_simp
 refine tkL 6 (.slice na nn nc) aa (fun W hW=>?_) ?_
 ·obtain ⟨⟨x0,x1,x2,x3,x4⟩,_⟩:=HC.out W hW
  go_simp
 simp only [sX];refine tkL 8 (.pointer (some ⟨w.heap.size,3,none⟩)) aa (fun W hW=>?_) ?_
 ·obtain ⟨⟨x0,x1,x2,x3,x4⟩,_⟩:=HC.out W hW
  go_simp
 refine tkL 9 (.agg #[.int .i64 h,.int .u64 l]) aa (fun W hW=>?_) ?_
 ·obtain ⟨⟨x0,x1,x2,x3,x4⟩,_⟩:=HC.out W hW
  go_simp
 simp only [sX];refine onE 4 fun K hK=>?_;go_simp;refine (Qns _ _ hp lp (Qai HP (ag.out.trans ((ZZb _ _).drew.mono ag.out.size)))).mono ?_;rintro e w1 ⟨v1,rfl,ah,an⟩;dsimp only;have ae:=Qaa ((aa:Below W0.heap.size W0 W0.drew).trans an);have al:=Qaa (ah.le (B':=w.heap.size) (by show w.heap.size<=W0.heap.size;omega));obtain ⟨ac,c1,rfl⟩:=ah.any;clear ah an;refine gK hK ae.out ?_
 try simp only [sX]
 refine onE 7 fun K hK=>?_;go_simp;refine (Qns _ _ hn ln (Qai HN (Qac ag ae))).mono ?_;rintro e w2 ⟨v2,rfl,ad,aj⟩;dsimp only;have af:=Qaa (Qac ae aj);have ak:=Qaa (ad.le (B':=w.heap.size) (by have:=ae.out.size;omega));have ab:=Qaa (al.out.past aj);have ao:Hid (QjC (.slice ac pn c1) v2):=(fun k e1 e2=>by have:=(al.out.lt k e1).2;have:=(ad.lt k e2).1;omega:QjC (.slice ac pn c1) v2);obtain ⟨am,c2,rfl⟩:=ad.any;clear ad aj;refine gK hK af.out ?_
 try simp only [sX]
 refine tkS 10 (.agg #[.int .u64 z,.slice ac pn c1,.slice am nn c2,.int .i64 h,.int .u64 l]) af ?_;simp only [sX];have R2:=(HC.out _ af).2;obtain ⟨q0,q1,q2,q3,q4⟩:=Qes R2;obtain ⟨f0,f1,f2,f3,f4⟩:=fA5 R2;refine onE 11 fun K hK=>?_;go_simp;refine hK.out _ _ (fun h=>absurd rfl h) ?_
 try simp only [sX]
 refine dnE ?_ _;go_wp2;refine bodyPost_ret (v:=.agg #[.int .u64 z,.slice ac pn c1,.slice am nn c2,.int .i64 h,.int .u64 l]) (by simp [results,results137,go_sem,q0,q1,q2,q3,q4]) rfl ⟨_,rfl,⟨_,_,pn,nn,rfl,?_,?_,ao⟩,?_⟩
 ·have ai:=ab.out.ne R2 (by decide)
  repeat (refine OwnB.set ?_ ai _)
  exact ab.out
 ·have ai:=ak.out.ne R2 (by decide)
  repeat (refine OwnB.set ?_ ai _)
  exact ak.out
 ·repeat (refine Below.setCell ?_ (by simp <;> omega) _)
  exact Qac ag af
end
instance inhCe:Inhabited Ce:=⟨⟨0,⟨#[]⟩,QgG,⟨none,0,none,0,none,0,none,0⟩⟩⟩
section
def cfC (c d:Ce):Int:=QtI c.n c.s d.n d.s
end
section
end
section
end
section
theorem Qpt {g:Ag} {p:Pl} (sm:AgSm g) (pl:PlG g p) (hA:AgAt w g p) :
  Calls prog 96 #[.agg (Qav g p)] w fun e w'=>AgRes w (fun o=>o=g) e w':=by
 have SM:=Qaa sm;have PL:=Qaa pl;have HA:=Qaa hA;clear sm pl hA;obtain ⟨ad,HC⟩:=Qsl w g p;have aq:=QpI w (.cells (Qav g p) 73) (.cells z13 73);go_enter func96,ntmps96;go_wp2_with fail;generalize (w.alloc (.cells (Qav g p) 73)).alloc (.cells z13 73)=W0 at ad HC aq ⊢;have ac:Hid (Below W0.heap.size W0 W0.drew):=(ZZb _ _).drew;have ag:(fun W=>W.cell? ⟨w.heap.size,11,none⟩=some (.slice p.ea g.E.length p.ec)/\W.cell? ⟨w.heap.size,12,none⟩=some (.slice p.ra g.R.length p.rc)) W0.drew:=⟨QeR (HC.out _ ac).1 11 rfl,QeR (HC.out _ ac).1 12 rfl⟩;refine Qal (fun W=>W.cell? ⟨w.heap.size,11,none⟩=some (.slice p.ea g.E.length p.ec)/\W.cell? ⟨w.heap.size,12,none⟩=some (.slice p.ra g.R.length p.rc)) 9 (by kernel_rfl) ?_;refine tkS 0 (.pointer (some ⟨w.heap.size,6,none⟩)) ag ?_;refine tkS 3 (.pointer (some ⟨w.heap.size,11,none⟩)) ag ?_;refine tkL 4 (.agg #[.slice p.ea g.E.length p.ec,.slice p.ra g.R.length p.rc]) ag (fun W hW=>?_) ?_
 ·have aD:=hW.1
  have ax:=hW.2;clear hW;go_simp
 simp only [sX];have ap:=Qaa (HC.out _ ac).1;obtain ⟨q0,q1,q2,q3,q4,q5,q6,q7,q8,q9,aj,ai,ak⟩:=Qc8 ap;refine onE 1 fun K hK=>?_;go_simp;refine gK hK ag ?_
 try simp only [sX]
 clear q0 q1 q2 q3 q4 q5 q6 q7 q8 q9 aj ai ak;refine onE 2 fun K hK=>?_;go_simp;refine (QjH rfl rfl SM.out.P SM.out.N (Qai HA.out.P (Qac ad ac)) (Qai HA.out.N (Qac ad ac))).mono ?_;rintro e w1 ⟨v1,rfl,⟨vp,vn,pn,nn,rfl,o1,o2,am⟩,ao⟩;obtain ⟨pa,pc,rfl⟩:=o1.any;obtain ⟨na,nc,rfl⟩:=o2.any;obtain rfl:=o1.1;obtain rfl:=o2.1;have ab:Hid (Below W0.heap.size W0 w1):=Qac ac ao;have aa:=Qaa (And.intro (o1.le (show W0.heap.size<=W0.drew.heap.size from ZZa _)) (And.intro (o2.le (show W0.heap.size<=W0.drew.heap.size from ZZa _)) am));have an:(fun W=>W.cell? ⟨w.heap.size,11,none⟩=some (.slice p.ea g.E.length p.ec)/\W.cell? ⟨w.heap.size,12,none⟩=some (.slice p.ra g.R.length p.rc)) w1:=⟨QeR (HC.out _ ab).1 11 rfl,QeR (HC.out _ ab).1 12 rfl⟩;clear o1 o2 am ao;dsimp only;refine gK hK an ?_
 try simp only [sX]
 refine tkS 6 (.pointer (some ⟨w.heap.size,6,none⟩)) an ?_;simp only [sX];refine onE 5 fun K hK=>?_;go_simp;refine (Qof rfl rfl SM.out.E SM.out.R PL.out.fE PL.out.fR (Qak HA.out.E (Qac ad ab)) (Qak HA.out.R (Qac ad ab))).mono ?_;rintro e w2 ⟨v2,rfl,⟨ve,vr,rfl,o3,o4⟩,af⟩;obtain ⟨ea,ec,rfl⟩:=Qan o3;obtain ⟨ra,rc,rfl⟩:=Qan o4;have ah:Hid (Below W0.heap.size W0 w2):=Qac ab af;have al:=Qaa (And.intro (Qbv o3 ab.out.size) (Qbv o4 ab.out.size));have aa:=Qaa (And.intro (aa.out.1.past af) (And.intro (aa.out.2.1.past af) aa.out.2.2));have ar:(fun W=>W.cell? ⟨w.heap.size,11,none⟩=some (.slice p.ea g.E.length p.ec)/\W.cell? ⟨w.heap.size,12,none⟩=some (.slice p.ra g.R.length p.rc)) w2:=⟨QeR (HC.out _ ah).1 11 rfl,QeR (HC.out _ ah).1 12 rfl⟩;clear o3 o4 af;dsimp only;refine gK hK ar ?_
 try simp only [sX]
 have ae:=Qaa (HC.out _ ah);obtain ⟨q0,q1,q2,q3,q4,q5,q6,q7,q8,q9,aj,ai,ak⟩:=Qc8 ae.out.1;obtain ⟨f0,f1,f2,f3,f4,f5,f6,f7,f8,f9,aE,aA,az⟩:=QgR ae.out.1;obtain ⟨z0,z1,z2,z3,z4,z5,z6,z7,z8,z9,av,au,aw⟩:=Qc8 ae.out.2;obtain ⟨k0,k1,k2,k3,k4,k5,k6,k7,k8,k9,ay,aC,aB⟩:=QgR ae.out.2;refine onE 7 fun K hK=>?_;go_simp;refine hK.out _ _ (fun _=>(by constructor <;> go_simp)) ?_
 try simp only [sX]
 refine QcB (i:=8) (d:=10) (v:=.pointer (some ⟨w.heap.size,11,none⟩)) rfl rfl (by kernel_rfl) (by kernel_rfl) (by kernel_rfl) (by decide) (by kernel_rfl) (fun _ _ _ h=>h) (Or.inl ⟨by rfl,fun W hW=>?_⟩) (by constructor <;> go_simp) ?_
 ·clear hW
  go_simp
 simp only [sX];refine onE 9 fun K hK=>?_;go_simp;refine hK.out _ _ (fun h=>absurd rfl h) ?_
 try simp only [sX]
 refine dnE ?_ _;go_wp2;refine bodyPost_ret (v:=.agg (Qav g ⟨pa,pc,na,nc,ea,ec,ra,rc⟩)) (by simp [results,results96,go_sem,q0,q1,q2,q3,q4,q5,q6,q7,q8,q9,aj,ai,ak,z0,z1,z2,z3,z4,z5,z6,z7,z8,z9,av,au,aw]) rfl (AgRes.mk (o:=g) (p:=⟨pa,pc,na,nc,ea,ec,ra,rc⟩) rfl ?_ ?_)
 ·refine AgO.le (B:=W0.heap.size) ?_ (by omega)
  repeat (refine AgO.below ?_ (by omega) _)
  exact ⟨aa.out.1,aa.out.2.1,aa.out.2.2,⟨rfl,al.out.1⟩,⟨rfl,al.out.2⟩⟩
 ·repeat (refine Below.setCell ?_ (by simp <;> omega) _)
  exact Qac ad ah
end
variable {c':Ce}
section
theorem QnL:∀ (L:List Ce) (i:Nat) (c c':Ce) (j:Nat) (u:Value),j<15->L[i]?=some c->ceL c'=(ceL c).set j u->(flC L).set (i*15+j) u=flC (L.set i c')
 | [],i,c,c',j,u,hj,h,e=>by simp at h
 | x :: xs,0,c,c',j,u,hj,h,e=>by
  obtain rfl:x=c:=by simpa using h
  rw [QcR,List.set_append_left _ _ (by rw [Qd2];omega),List.set_cons_zero,QcR,e,Nat.zero_mul,Nat.zero_add]
 | x :: xs,i+1,c,c',j,u,hj,h,e=>by
  rw [QcR,List.set_append_right _ _ (by rw [Qd2];omega),Qd2,List.set_cons_succ,QcR,<- QnL xs i c c' j u hj (by simpa using h) e,show (i+1)*15+j - 15=i*15+j by omega]
theorem OwnC.put1 {j:Nat} {L:List Ce} {c:Ce} {u:Value} (h:OwnC w B (.slice (some ⟨g,0,none⟩) n cp) L) (hn:L.length=n) (hc:L[i]?=some c) (hj:j<15) (e:ceL c'=(ceL c).set j u):OwnC (w.setCell ⟨g,i*15+j,none⟩ u) B (.slice (some ⟨g,0,none⟩) n cp) (L.set i c'):=by
 subst hn;have q:=(World.ownsRow.stored h (i*15+j) u).1;rw [QnL L i c c' j u hj hc e] at q
 show World.ownsRow _ _ _ _ _ _ _
 rw [List.length_set];exact q
end
variable {o:Ag}
variable {q:Pl}
section
theorem OwnC.putAg {L:List Ce} {c:Ce} (h0:OwnC w B (.slice (some ⟨g,0,none⟩) n cp) L) (hn:L.length=n) (hc:L[i]?=some c) :
  OwnC (((((((((((((w.setCell ⟨g,i*15+2,none⟩ (.int .i64 o.k)).setCell ⟨g,i*15+3,none⟩ (.int .u64 o.s)).setCell ⟨g,i*15+4,none⟩ (.int .i64 o.h)).setCell ⟨g,i*15+5,none⟩ (.int .u64 o.l)).setCell ⟨g,i*15+6,none⟩ (.int .i64 o.a)).setCell ⟨g,i*15+7,none⟩ (.int .i64 o.t)).setCell ⟨g,i*15+8,none⟩ (.int .u64 o.z)).setCell ⟨g,i*15+9,none⟩ (.slice q.pa o.P.length q.pc)).setCell ⟨g,i*15+10,none⟩ (.slice q.na o.N.length q.nc)).setCell ⟨g,i*15+11,none⟩ (.int .i64 o.x)).setCell ⟨g,i*15+12,none⟩ (.int .u64 o.y)).setCell ⟨g,i*15+13,none⟩ (.slice q.ea o.E.length q.ec)).setCell ⟨g,i*15+14,none⟩ (.slice q.ra o.R.length q.rc)) B (.slice (some ⟨g,0,none⟩) n cp) (L.set i ⟨c.n,c.s,o,q⟩):=by
 have hi:i<L.length:=(ZZd.1 hc).1;have h1:=OwnC.put1 (j:=2) (c:=(⟨c.n,c.s,⟨c.g.k,c.g.s,c.g.h,c.g.l,c.g.a,c.g.t,c.g.z,c.g.P,c.g.N,c.g.x,c.g.y,c.g.E,c.g.R⟩,⟨c.p.pa,c.p.pc,c.p.na,c.p.nc,c.p.ea,c.p.ec,c.p.ra,c.p.rc⟩⟩:Ce)) (c':=(⟨c.n,c.s,⟨o.k,c.g.s,c.g.h,c.g.l,c.g.a,c.g.t,c.g.z,c.g.P,c.g.N,c.g.x,c.g.y,c.g.E,c.g.R⟩,⟨c.p.pa,c.p.pc,c.p.na,c.p.nc,c.p.ea,c.p.ec,c.p.ra,c.p.rc⟩⟩:Ce)) (u:=.int .i64 o.k) h0 (by simp [hn]) hc (by decide) rfl;have h2:=OwnC.put1 (j:=3) (c:=(⟨c.n,c.s,⟨o.k,c.g.s,c.g.h,c.g.l,c.g.a,c.g.t,c.g.z,c.g.P,c.g.N,c.g.x,c.g.y,c.g.E,c.g.R⟩,⟨c.p.pa,c.p.pc,c.p.na,c.p.nc,c.p.ea,c.p.ec,c.p.ra,c.p.rc⟩⟩:Ce)) (c':=(⟨c.n,c.s,⟨o.k,o.s,c.g.h,c.g.l,c.g.a,c.g.t,c.g.z,c.g.P,c.g.N,c.g.x,c.g.y,c.g.E,c.g.R⟩,⟨c.p.pa,c.p.pc,c.p.na,c.p.nc,c.p.ea,c.p.ec,c.p.ra,c.p.rc⟩⟩:Ce)) (u:=.int .u64 o.s) h1 (by simp [hn]) (List.getElem?_set_self hi) (by decide) rfl;rw [List.set_set] at h2;have h3:=OwnC.put1 (j:=4) (c:=(⟨c.n,c.s,⟨o.k,o.s,c.g.h,c.g.l,c.g.a,c.g.t,c.g.z,c.g.P,c.g.N,c.g.x,c.g.y,c.g.E,c.g.R⟩,⟨c.p.pa,c.p.pc,c.p.na,c.p.nc,c.p.ea,c.p.ec,c.p.ra,c.p.rc⟩⟩:Ce)) (c':=(⟨c.n,c.s,⟨o.k,o.s,o.h,c.g.l,c.g.a,c.g.t,c.g.z,c.g.P,c.g.N,c.g.x,c.g.y,c.g.E,c.g.R⟩,⟨c.p.pa,c.p.pc,c.p.na,c.p.nc,c.p.ea,c.p.ec,c.p.ra,c.p.rc⟩⟩:Ce)) (u:=.int .i64 o.h) h2 (by simp [hn]) (List.getElem?_set_self hi) (by decide) rfl;rw [List.set_set] at h3;have h4:=OwnC.put1 (j:=5) (c:=(⟨c.n,c.s,⟨o.k,o.s,o.h,c.g.l,c.g.a,c.g.t,c.g.z,c.g.P,c.g.N,c.g.x,c.g.y,c.g.E,c.g.R⟩,⟨c.p.pa,c.p.pc,c.p.na,c.p.nc,c.p.ea,c.p.ec,c.p.ra,c.p.rc⟩⟩:Ce)) (c':=(⟨c.n,c.s,⟨o.k,o.s,o.h,o.l,c.g.a,c.g.t,c.g.z,c.g.P,c.g.N,c.g.x,c.g.y,c.g.E,c.g.R⟩,⟨c.p.pa,c.p.pc,c.p.na,c.p.nc,c.p.ea,c.p.ec,c.p.ra,c.p.rc⟩⟩:Ce)) (u:=.int .u64 o.l) h3 (by simp [hn]) (List.getElem?_set_self hi) (by decide) rfl;rw [List.set_set] at h4;have h5:=OwnC.put1 (j:=6) (c:=(⟨c.n,c.s,⟨o.k,o.s,o.h,o.l,c.g.a,c.g.t,c.g.z,c.g.P,c.g.N,c.g.x,c.g.y,c.g.E,c.g.R⟩,⟨c.p.pa,c.p.pc,c.p.na,c.p.nc,c.p.ea,c.p.ec,c.p.ra,c.p.rc⟩⟩:Ce)) (c':=(⟨c.n,c.s,⟨o.k,o.s,o.h,o.l,o.a,c.g.t,c.g.z,c.g.P,c.g.N,c.g.x,c.g.y,c.g.E,c.g.R⟩,⟨c.p.pa,c.p.pc,c.p.na,c.p.nc,c.p.ea,c.p.ec,c.p.ra,c.p.rc⟩⟩:Ce)) (u:=.int .i64 o.a) h4 (by simp [hn]) (List.getElem?_set_self hi) (by decide) rfl;rw [List.set_set] at h5;have h6:=OwnC.put1 (j:=7) (c:=(⟨c.n,c.s,⟨o.k,o.s,o.h,o.l,o.a,c.g.t,c.g.z,c.g.P,c.g.N,c.g.x,c.g.y,c.g.E,c.g.R⟩,⟨c.p.pa,c.p.pc,c.p.na,c.p.nc,c.p.ea,c.p.ec,c.p.ra,c.p.rc⟩⟩:Ce)) (c':=(⟨c.n,c.s,⟨o.k,o.s,o.h,o.l,o.a,o.t,c.g.z,c.g.P,c.g.N,c.g.x,c.g.y,c.g.E,c.g.R⟩,⟨c.p.pa,c.p.pc,c.p.na,c.p.nc,c.p.ea,c.p.ec,c.p.ra,c.p.rc⟩⟩:Ce)) (u:=.int .i64 o.t) h5 (by simp [hn]) (List.getElem?_set_self hi) (by decide) rfl;rw [List.set_set] at h6;have h7:=OwnC.put1 (j:=8) (c:=(⟨c.n,c.s,⟨o.k,o.s,o.h,o.l,o.a,o.t,c.g.z,c.g.P,c.g.N,c.g.x,c.g.y,c.g.E,c.g.R⟩,⟨c.p.pa,c.p.pc,c.p.na,c.p.nc,c.p.ea,c.p.ec,c.p.ra,c.p.rc⟩⟩:Ce)) (c':=(⟨c.n,c.s,⟨o.k,o.s,o.h,o.l,o.a,o.t,o.z,c.g.P,c.g.N,c.g.x,c.g.y,c.g.E,c.g.R⟩,⟨c.p.pa,c.p.pc,c.p.na,c.p.nc,c.p.ea,c.p.ec,c.p.ra,c.p.rc⟩⟩:Ce)) (u:=.int .u64 o.z) h6 (by simp [hn]) (List.getElem?_set_self hi) (by decide) rfl;rw [List.set_set] at h7;have h8:=OwnC.put1 (j:=9) (c:=(⟨c.n,c.s,⟨o.k,o.s,o.h,o.l,o.a,o.t,o.z,c.g.P,c.g.N,c.g.x,c.g.y,c.g.E,c.g.R⟩,⟨c.p.pa,c.p.pc,c.p.na,c.p.nc,c.p.ea,c.p.ec,c.p.ra,c.p.rc⟩⟩:Ce)) (c':=(⟨c.n,c.s,⟨o.k,o.s,o.h,o.l,o.a,o.t,o.z,o.P,c.g.N,c.g.x,c.g.y,c.g.E,c.g.R⟩,⟨q.pa,q.pc,c.p.na,c.p.nc,c.p.ea,c.p.ec,c.p.ra,c.p.rc⟩⟩:Ce)) (u:=.slice q.pa o.P.length q.pc) h7 (by simp [hn]) (List.getElem?_set_self hi) (by decide) rfl;rw [List.set_set] at h8;have h9:=OwnC.put1 (j:=10) (c:=(⟨c.n,c.s,⟨o.k,o.s,o.h,o.l,o.a,o.t,o.z,o.P,c.g.N,c.g.x,c.g.y,c.g.E,c.g.R⟩,⟨q.pa,q.pc,c.p.na,c.p.nc,c.p.ea,c.p.ec,c.p.ra,c.p.rc⟩⟩:Ce)) (c':=(⟨c.n,c.s,⟨o.k,o.s,o.h,o.l,o.a,o.t,o.z,o.P,o.N,c.g.x,c.g.y,c.g.E,c.g.R⟩,⟨q.pa,q.pc,q.na,q.nc,c.p.ea,c.p.ec,c.p.ra,c.p.rc⟩⟩:Ce)) (u:=.slice q.na o.N.length q.nc) h8 (by simp [hn]) (List.getElem?_set_self hi) (by decide) rfl;rw [List.set_set] at h9;have ab:=OwnC.put1 (j:=11) (c:=(⟨c.n,c.s,⟨o.k,o.s,o.h,o.l,o.a,o.t,o.z,o.P,o.N,c.g.x,c.g.y,c.g.E,c.g.R⟩,⟨q.pa,q.pc,q.na,q.nc,c.p.ea,c.p.ec,c.p.ra,c.p.rc⟩⟩:Ce)) (c':=(⟨c.n,c.s,⟨o.k,o.s,o.h,o.l,o.a,o.t,o.z,o.P,o.N,o.x,c.g.y,c.g.E,c.g.R⟩,⟨q.pa,q.pc,q.na,q.nc,c.p.ea,c.p.ec,c.p.ra,c.p.rc⟩⟩:Ce)) (u:=.int .i64 o.x) h9 (by simp [hn]) (List.getElem?_set_self hi) (by decide) rfl;rw [List.set_set] at ab;have aa:=OwnC.put1 (j:=12) (c:=(⟨c.n,c.s,⟨o.k,o.s,o.h,o.l,o.a,o.t,o.z,o.P,o.N,o.x,c.g.y,c.g.E,c.g.R⟩,⟨q.pa,q.pc,q.na,q.nc,c.p.ea,c.p.ec,c.p.ra,c.p.rc⟩⟩:Ce)) (c':=(⟨c.n,c.s,⟨o.k,o.s,o.h,o.l,o.a,o.t,o.z,o.P,o.N,o.x,o.y,c.g.E,c.g.R⟩,⟨q.pa,q.pc,q.na,q.nc,c.p.ea,c.p.ec,c.p.ra,c.p.rc⟩⟩:Ce)) (u:=.int .u64 o.y) ab (by simp [hn]) (List.getElem?_set_self hi) (by decide) rfl;rw [List.set_set] at aa;have ac:=OwnC.put1 (j:=13) (c:=(⟨c.n,c.s,⟨o.k,o.s,o.h,o.l,o.a,o.t,o.z,o.P,o.N,o.x,o.y,c.g.E,c.g.R⟩,⟨q.pa,q.pc,q.na,q.nc,c.p.ea,c.p.ec,c.p.ra,c.p.rc⟩⟩:Ce)) (c':=(⟨c.n,c.s,⟨o.k,o.s,o.h,o.l,o.a,o.t,o.z,o.P,o.N,o.x,o.y,o.E,c.g.R⟩,⟨q.pa,q.pc,q.na,q.nc,q.ea,q.ec,c.p.ra,c.p.rc⟩⟩:Ce)) (u:=.slice q.ea o.E.length q.ec) aa (by simp [hn]) (List.getElem?_set_self hi) (by decide) rfl;rw [List.set_set] at ac;have ad:=OwnC.put1 (j:=14) (c:=(⟨c.n,c.s,⟨o.k,o.s,o.h,o.l,o.a,o.t,o.z,o.P,o.N,o.x,o.y,o.E,c.g.R⟩,⟨q.pa,q.pc,q.na,q.nc,q.ea,q.ec,c.p.ra,c.p.rc⟩⟩:Ce)) (c':=(⟨c.n,c.s,⟨o.k,o.s,o.h,o.l,o.a,o.t,o.z,o.P,o.N,o.x,o.y,o.E,o.R⟩,⟨q.pa,q.pc,q.na,q.nc,q.ea,q.ec,q.ra,q.rc⟩⟩:Ce)) (u:=.slice q.ra o.R.length q.rc) ac (by simp [hn]) (List.getElem?_set_self hi) (by decide) rfl;rw [List.set_set] at ad;exact ad
theorem QkA:w.grownBy (((((((((((((w.setCell ⟨g,i*15+2,none⟩ (.int .i64 o.k)).setCell ⟨g,i*15+3,none⟩ (.int .u64 o.s)).setCell ⟨g,i*15+4,none⟩ (.int .i64 o.h)).setCell ⟨g,i*15+5,none⟩ (.int .u64 o.l)).setCell ⟨g,i*15+6,none⟩ (.int .i64 o.a)).setCell ⟨g,i*15+7,none⟩ (.int .i64 o.t)).setCell ⟨g,i*15+8,none⟩ (.int .u64 o.z)).setCell ⟨g,i*15+9,none⟩ (.slice q.pa o.P.length q.pc)).setCell ⟨g,i*15+10,none⟩ (.slice q.na o.N.length q.nc)).setCell ⟨g,i*15+11,none⟩ (.int .i64 o.x)).setCell ⟨g,i*15+12,none⟩ (.int .u64 o.y)).setCell ⟨g,i*15+13,none⟩ (.slice q.ea o.E.length q.ec)).setCell ⟨g,i*15+14,none⟩ (.slice q.ra o.R.length q.rc)) (some g):=
 ((((((((((((Qah _ _ _ _).trans (Qah _ _ _ _)).trans (Qah _ _ _ _)).trans (Qah _ _ _ _)).trans (Qah _ _ _ _)).trans (Qah _ _ _ _)).trans (Qah _ _ _ _)).trans (Qah _ _ _ _)).trans (Qah _ _ _ _)).trans (Qah _ _ _ _)).trans (Qah _ _ _ _)).trans (Qah _ _ _ _)).trans (Qah _ _ _ _)
theorem QnE {L:List Ce} {c:Ce} (hc:L[i]?=some c):L.set i c'=L.take i ++ c' :: L.drop (i+1)/\L=L.take i ++ c :: L.drop (i+1):=by
 obtain ⟨hi,e⟩:=ZZd.1 hc;constructor
 ·rw [List.set_eq_take_append_cons_drop,if_pos hi]
 ·rw [<- e,<- List.drop_eq_getElem_cons hi,List.take_append_drop]
end
end Go.Proofs.YtlejlgldgafljaaGreatDoor
