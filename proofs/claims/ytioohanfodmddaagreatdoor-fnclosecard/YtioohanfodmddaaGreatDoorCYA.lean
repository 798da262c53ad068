/-
 Parts.
-/
import Derived.Test.YtioohanfodmddaaGreatDoorCXB
import Derived.Deep.Draws
import Derived.Laws.CopyOwn
import Derived.Sort.Grow
set_option maxRecDepth 10000
set_option maxHeartbeats 8000000
set_option linter.all false
namespace Go.Proofs.YtioohanfodmddaaGreatDoor
open Go.ChangeShapes Go.WideShapes Go.ChangeAt Go.RowKit Go.PlainAid Go.Lib Go.Maps Go.Shelf Tryz
open Go.Sort hiding Below
theorem mEf {p:Prop} (h:p:=by rintro e w' ⟨rfl,rfl⟩;exact ⟨_,rfl,World.ownsRow_nil _ _ _ _,ZZb _ _⟩):p:=h
variable {w:World}
section
structure Grw (w w':World):Prop where
  b:Bw w w'
  d:w.drawn<=w'.drawn
theorem Grw.to {w':World} (h:Grw w w'):∃ q os',w'=Sort.grow (w.drewN q) os':=by
  obtain ⟨hb,hd⟩:=h;refine ⟨w'.drawn - w.drawn,w'.heap.extract w.heap.size w'.heap.size,?_⟩;have h1:=hb.os;have h2:=hb.tape;have h3:=hb.output;have h4:=hb.size
  have h5:w'.heap=w.heap ++ w'.heap.extract w.heap.size w'.heap.size:=by
    apply Array.ext_getElem?;intro i;by_cases hi:i<w.heap.size
    · rw [Array.getElem?_append_left hi];exact hb.block i hi
    · rw [Array.getElem?_append_right oB]
      by_cases hj:i<w'.heap.size
      · have e:w.heap.size+(i - w.heap.size)=i:=by omega
        rw [Array.getElem?_extract_of_lt oB,Array.getElem?_eq_getElem hj];simp only [e]
      · rw [Array.getElem?_eq_none oB,Array.getElem?_eq_none oH]
  obtain ⟨hp,tp,dr,os,ou⟩:=w;obtain ⟨ad,ac,ab,os',aa⟩:=w';simp only at h1 h2 h3 h4 h5 hd;unfold Sort.grow World.drewN;simp only [World.mk.injEq];exact ⟨h5,h2,by omega,h1,h3⟩
theorem Qmu (c:Ce) (w:World):Calls prog 106 #[.agg (Qao c)] w fun e w'=>e=.returned (.agg #[.int .i64 c.n,.string c.s])/\Grw w w':=by
  go_enter func106,ntmps106;go_wp2;refine bodyPost_ret (v:=.agg #[.int .i64 c.n,.string c.s]) (by simp [results,results106,go_sem]) rfl ⟨rfl,?_,?_⟩
  · first
    | exact ((Below.refl _ _).alloc (Nat.le_refl _) _).alloc oE _
    | (repeat (refine Below.setCell ?_ oE _)
       exact ((Below.refl _ _).alloc (Nat.le_refl _) _).alloc oE _)
  · exact ZZa _
theorem QhI (n:Int) (s:ByteArray) (n':Int) (s':ByteArray) (w:World) :
    Calls prog 105 #[.agg #[.int .i64 n,.string s],.agg #[.int .i64 n',.string s']] w fun e w'=>e=.returned (.int .i64 (QpV n s n' s'))/\Grw w w':=by
  have ad:Hid (∀ o o',Bw w ((w.alloc o).alloc o')):=fun o o'=>((Below.refl _ _).alloc (Nat.le_refl _) o).alloc oE o'
  have HN:Hid (∀ T,((w.alloc (.cells #[.int .i64 n,.string s] T)).alloc (.cells #[.int .i64 n',.string s'] T)).heap[w.heap.size]?=some (.cells #[.int .i64 n,.string s] T (0,0))/\((w.alloc (.cells #[.int .i64 n,.string s] T)).alloc (.cells #[.int .i64 n',.string s'] T)).heap[w.heap.size+1]?=some (.cells #[.int .i64 n',.string s'] T (0,0))):=fun T=>by
    exact mBc
  go_enter func105,ntmps105;go_wp2_with fail;have HR:=Qaa (HN.out 128);have ac:=Qaa (ad.out (.cells #[.int .i64 n,.string s] 128) (.cells #[.int .i64 n',.string s'] 128));have af:((w.alloc (.cells #[.int .i64 n,.string s] 128)).alloc (.cells #[.int .i64 n',.string s'] 128)).heap.size=w.heap.size+1+1:=oE
  have ae:w.drawn<=((w.alloc (.cells #[.int .i64 n,.string s] 128)).alloc (.cells #[.int .i64 n',.string s'] 128)).drawn:=ZZa _;have ag:=Qaa ae;clear ae;generalize (w.alloc _).alloc _=W0 at HR ac ag af ⊢;clear HN ad;have R0:(fun W=>W.heap[w.heap.size]?=some (.cells #[.int .i64 n,.string s] 128 (0,0))/\W.heap[w.heap.size+1]?=some (.cells #[.int .i64 n',.string s'] 128 (0,0))) W0.drew:=HR.out;refine Qal (fun W=>W.heap[w.heap.size]?=some (.cells #[.int .i64 n,.string s] 128 (0,0))/\W.heap[w.heap.size+1]?=some (.cells #[.int .i64 n',.string s'] 128 (0,0))) 12 oG ?_;refine tkL 0 (.pointer (some ⟨w.heap.size,0,none⟩)) R0 (fun W hW=>?_) ?_
  · have x0:=QaG hW.1 0 rfl
    exact mAj
  refine tkL 1 (.int .i64 n) R0 (fun W hW=>?_) ?_
  · have x0:=QaG hW.1 0 rfl
    exact mAj
  refine tkL 2 (.pointer (some ⟨w.heap.size+1,0,none⟩)) R0 (fun W hW=>?_) ?_
  · have x0:=QaG hW.1 0 rfl
    exact mAj
  simp only [sX];refine tkL 3 (.int .i64 n') R0 (fun W hW=>?_) ?_
  · have x0:=QaG hW.1 0 rfl
    exact mAj
  refine tkL 5 (.pointer (some ⟨w.heap.size,1,none⟩)) R0 (fun W hW=>?_) ?_
  · have x0:=QaG hW.1 0 rfl
    exact mAj
  refine tkL 6 (.string s) R0 (fun W hW=>?_) ?_
  · have x0:=QaG hW.1 0 rfl
    exact mAj
  simp only [sX];refine tkL 7 (.pointer (some ⟨w.heap.size+1,1,none⟩)) R0 (fun W hW=>?_) ?_
  · have x0:=QaG hW.1 0 rfl
    exact mAj
  refine tkL 8 (.string s') R0 (fun W hW=>?_) ?_
  · have x0:=QaG hW.1 0 rfl
    exact mAj
  simp only [sX];refine onE 4 fun K hK=>?_;go_simp;refine (QfX n n' _).mono ?_;rintro e wz ⟨rfl,aa⟩;obtain rfl:=aa.symm;dsimp only;refine gK hK R0 ?_
  try simp only [sX]
  refine onE 9 fun K hK=>?_;go_simp;refine (QjF s s' _).mono ?_;rintro e wz ⟨rfl,aa⟩;obtain rfl:=aa.symm;dsimp only;refine gK hK R0 ?_
  try simp only [sX]
  have k2:=ZZk W0 (.cells #[.int .i64 (Qjx n n'),.int .i64 (Qng s s')] 3);rw [af] at k2;have k3:(W0.alloc (.cells #[.int .i64 (Qjx n n'),.int .i64 (Qng s s')] 3)).drew.heap[w.heap.size+1+1]?=some (.cells #[.int .i64 (Qjx n n'),.int .i64 (Qng s s')] 3 (0,0)):=k2;have HC:=Qaa (And.intro (QaG k3 0 rfl) (QaG k3 1 rfl));clear k2 k3;have ab:Bw W0 (W0.alloc (.cells #[.int .i64 (Qjx n n'),.int .i64 (Qng s s')] 3)).drew:=((ZZb _ _).alloc (ZZa _) _).drew;have R1:=And.intro ((ab.block w.heap.size oB).trans HR.1) ((ab.block (w.heap.size+1) oB).trans HR.2);have ah:=Qaa (Qac ac ab);clear ab;refine onE 10 fun K hK=>?_;go_simp;refine gK hK R1 ?_
  try simp only [sX]
  refine onE 11 fun K hK=>?_;go_simp;refine (Qqw _ _ HC.1 HC.2).mono ?_;rintro e wz ⟨rfl,aa⟩;obtain rfl:=aa.symm;dsimp only;refine gK hK R1 ?_
  try simp only [sX]
  refine onE 12 fun K hK=>?_;go_simp;refine hK.out _ _ (fun h=>absurd rfl h) ?_
  try simp only [sX]
  refine dnE ?_ _;go_wp2;go_ret;exact ⟨rfl,ah,Nat.le_trans ag (Nat.le_succ _)⟩
theorem QgG (c d:Ce) :
    Calls prog 60 #[.agg (Qao c),.agg (Qao d)] w fun e w'=>e=.returned (.int .i64 (QpV c.n c.s d.n d.s))/\Grw w w':=by
  have ac:Hid (Bw w ((w.alloc (.cells (Qao c) 46)).alloc (.cells (Qao d) 46))):=((Below.refl _ _).alloc (Nat.le_refl _) _).alloc oE _;have HC:=Qaa (QtE w 46 c d);go_enter func60,ntmps60;go_wp2_with fail;have ak:Hid (w.drawn<=((w.alloc (.cells (Qao c) 46)).alloc (.cells (Qao d) 46)).drawn):=ZZa w.drawn;generalize (w.alloc _).alloc _=W0 at HC ac ak ⊢;have aa:(fun W=>Bw W0 W) W0.drew:=(ZZb _ _).drew;refine Qal (fun W=>Bw W0 W) 5 oG ?_;refine tkL 0 (.agg (Qao c)) aa (fun W hW=>?_) ?_
  · obtain ⟨⟨x0,x1,x2,x3,x4,x5,x6,x7,x8,x9,ax,ao,aq,au,an⟩,⟨y0,y1,y2,y3,y4,y5,y6,y7,y8,y9,am,aw,az,aA,av⟩⟩:=HC.out W hW
    exact mAo
  refine tkL 2 (.agg (Qao d)) aa (fun W hW=>?_) ?_
  · obtain ⟨⟨x0,x1,x2,x3,x4,x5,x6,x7,x8,x9,ax,ao,aq,au,an⟩,⟨y0,y1,y2,y3,y4,y5,y6,y7,y8,y9,am,aw,az,aA,av⟩⟩:=HC.out W hW
    exact mAo
  simp only [sX];refine onE 1 fun K hK=>?_;go_simp;refine (Qmu c _).mono ?_;rintro e w1 ⟨rfl,ae,ad⟩;have ab:Hid (Bw W0 w1):=(aa:Bw W0 W0.drew).trans (ae.mono (ZZa _));have ap:Hid (w.drawn<=w1.drawn):=Nat.le_trans ak (Nat.le_trans (Nat.le_succ _) ad);clear ae ad;dsimp only;refine gK hK ab.out ?_
  try simp only [sX]
  refine onE 3 fun K hK=>?_;go_simp;refine (Qmu d _).mono ?_;rintro e w2 ⟨rfl,ai,ag⟩;have ah:Hid (Bw W0 w2):=Qac ab ai;have ar:Hid (w.drawn<=w2.drawn):=Nat.le_trans ap ag;clear ai ag;dsimp only;refine gK hK ah.out ?_
  try simp only [sX]
  refine onE 4 fun K hK=>?_;go_simp;refine (QhI c.n c.s d.n d.s _).mono ?_;rintro e w3 ⟨rfl,aj,af⟩;have al:Hid (Bw W0 w3):=Qac ah aj;have ay:Hid (w.drawn<=w3.drawn):=Nat.le_trans ar af;clear aj af;dsimp only;refine gK hK al.out ?_
  try simp only [sX]
  refine onE 5 fun K hK=>?_;go_simp;refine hK.out _ _ (fun h=>absurd rfl h) ?_
  try simp only [sX]
  refine dnE ?_ _;go_wp2;go_ret;exact ⟨rfl,Qac ac al,ay⟩
end
variable {B c cp g i n:Nat}
variable {v:Value}
section
theorem QeP {s:Nat} {e:TypeId} {xs:List Value} (h:w.ownsRow B e s v n xs):∃ ao c,v=.slice ao n c:=by
  rcases h.2 with ⟨rfl,rfl⟩ | ⟨g,c,_,rfl,_⟩
  · exact ⟨none,0,rfl⟩
  · exact ⟨_,c,rfl⟩
end
variable {ao:Option Addr}
section
theorem Qks {kd:IntKind} {b off:Nat} {L:List Int} (h:QaE kd w (some ⟨b,off,none⟩) L):∀ j u,(L.map (Value.int kd))[j]?=some u->w.cell? ⟨b,off+j,none⟩=some u:=fun j u hu=>by
  rw [List.getElem?_map] at hu;obtain ⟨x,hx,rfl⟩:=Option.map_eq_some_iff.1 hu;obtain ⟨b',off',e,hc⟩:=h xL
  cases e
  exact hc j x hx
theorem sizeU (w:World):(Go.sizeOf 33).run prog w=.ok 1 w:=Tryz.sizeOf33 w
theorem sizeI (w:World):(Go.sizeOf 2).run prog w=.ok 1 w:=Tryz.sizeOf2 w
theorem Qtb {L:List Int} (hn:L.length=n) (hl:n<=1048576) (hf:Qrm ao) (hA:QaE .u64 w ao L) :
    Calls prog 207 #[.slice ao n c] w fun e w'=>∃ v,e=.returned v/\w'.ownsRow w.heap.size 33 1 v L.length (L.map (Value.int .u64))/\Bw w w':=by
  obtain ⟨i0,hi,ac,aa,ab⟩:=info_parts Qex;rcases hf with rfl | ⟨b,ad,rfl⟩
  · obtain rfl:=Qiw hA
    refine (Tryz.slices_Clone_nil_f207 _ _ _).mono ?_;exact mEf
  · refine (Tryz.slices_Clone_f207 i0 _ 1 8 hi ac aa ab rfl oB sizeU b ad n c (L.map (Value.int .u64)) w oV oC oB (Qks hA) (by intro v hv;simp at hv;obtain ⟨x,_,rfl⟩:=hv;rfl)).mono ?_
    rintro e w' ⟨v,rfl,ho,_,hb⟩;exact ⟨v,rfl,by rw [hn];exact ho,hb⟩
theorem Qss {L:List Int} (hn:L.length=n) (hl:n<=1048576) (hf:Qrm ao) (hA:QaE .i64 w ao L) :
    Calls prog 208 #[.slice ao n c] w fun e w'=>∃ v,e=.returned v/\w'.ownsRow w.heap.size 2 1 v L.length (L.map (Value.int .i64))/\Bw w w':=by
  obtain ⟨i0,hi,ac,aa,ab⟩:=info_parts Qfn;rcases hf with rfl | ⟨b,ad,rfl⟩
  · obtain rfl:=Qiw hA
    refine (Tryz.slices_Clone_nil_f208 _ _ _).mono ?_;exact mEf
  · refine (Tryz.slices_Clone_f208 i0 _ 1 8 hi ac aa ab rfl oB sizeI b ad n c (L.map (Value.int .i64)) w oV oC oB (Qks hA) (by intro v hv;simp at hv;obtain ⟨x,_,rfl⟩:=hv;rfl)).mono ?_
    rintro e w' ⟨v,rfl,ho,_,hb⟩;exact ⟨v,rfl,by rw [hn];exact ho,hb⟩
theorem Qql {ea ra:Option Addr} {m d:Nat} {E R:List Int} (h1:E.length=n) (h2:R.length=m) (l1:n<=1048576) (l2:m<=1048576) (f1:Qrm ea) (f2:Qrm ra) (hE:QaE .u64 w ea E) (hR:QaE .i64 w ra R) :
    Calls prog 150 #[.agg #[.slice ea n c,.slice ra m d]] w fun e w'=>∃ v,e=.returned v/\QvN w' w.heap.size v E R/\Bw w w':=by
  have HE:=Qaa hE;have HR:=Qaa hR;have F1:=Qaa f1;have F2:=Qaa f2;have H1:=Qaa h1;have H2:=Qaa h2;have am:Hid (∀ o1 o2,Bw w ((w.alloc o1).alloc o2)):=fun o1 o2=>((Below.refl _ _).alloc (Nat.le_refl _) _).alloc oE _;clear hE hR f1 f2 h1 h2;go_enter func150,ntmps150;go_wp2_with fail;generalize hW0:(w.alloc _).alloc _=W0;have T0:Bw w W0:=by rw [<- hW0];exact am.out _ _
  have KR:=Qjq w 42 42 (.slice ea n c) (.slice ra m d) (.slice none 0 0) (.slice none 0 0) W0 (by rw [hW0];exact Below.refl _ _);have al:W0.heap.size=w.heap.size+2:=by rw [<- hW0];simp
  clear hW0;have ac:=Qaa T0;have hC:∀ W,Bw W0 W->Qce W w.heap.size (.slice ea n c) (.slice ra m d)/\W.heap[w.heap.size+1]?=some (.cells #[.slice none 0 0,.slice none 0 0] 42 (0,0)):=fun W hW=>⟨Qhq KR.1 hW,by rw [hW.block _ oB];exact KR.2⟩;have HC:=Qaa hC;clear T0 hC KR;have aa:(fun W=>Bw W0 W) W0.drew:=(ZZb _ _).drew;refine Qal (fun W=>Bw W0 W) 7 oG ?_;refine tkL 0 (.pointer (some ⟨w.heap.size,0,none⟩)) aa (fun W hW=>?_) ?_
  · obtain ⟨⟨x0,x1⟩,_⟩:=HC.out W hW
    go_simp
  refine tkL 1 (.slice ea n c) aa (fun W hW=>?_) ?_
  · obtain ⟨⟨x0,x1⟩,_⟩:=HC.out W hW
    go_simp
  refine tkL 3 (.pointer (some ⟨w.heap.size,1,none⟩)) aa (fun W hW=>?_) ?_
  · obtain ⟨⟨x0,x1⟩,_⟩:=HC.out W hW
    go_simp
  simp only [sX];refine tkL 4 (.slice ra m d) aa (fun W hW=>?_) ?_
  · obtain ⟨⟨x0,x1⟩,_⟩:=HC.out W hW
    go_simp
  simp only [sX];refine onE 2 fun K hK=>?_;go_simp;refine (Qtb H1 l1 F1 (Qak HE (ac.trans ((ZZb _ _).drew.mono ac.size)))).mono ?_;rintro e w1 ⟨v1,rfl,ah,ai⟩;dsimp only;have ab:=Qaa ((aa:Bw W0 W0.drew).trans ai);have an:=Qaa (Qbu (B':=W0.heap.size) ah (by show W0.heap.size<=W0.heap.size;omega));obtain ⟨ak,c1,rfl⟩:=QeP ah;clear ah ai;refine gK hK ab.out ?_
  try simp only [sX]
  refine onE 5 fun K hK=>?_;go_simp;refine (Qss H2 l2 F2 (Qak HR (Qac ac ab))).mono ?_;rintro e w2 ⟨v2,rfl,ae,af⟩;dsimp only;have ad:=Qaa (Qac ab af);have ao:=Qaa (Qbu (B':=W0.heap.size) ae ab.size);have ag:=Qaa (QaX an af);obtain ⟨aj,c2,rfl⟩:=QeP ae;clear ae af;refine gK hK ad.out ?_
  try simp only [sX]
  refine tkS 6 (.agg #[.slice ak E.length c1,.slice aj R.length c2]) ad ?_;simp only [sX];have R2:=(HC.out _ ad).2;have q0:w2.cell? ⟨w.heap.size+1,0,none⟩=some (.slice none 0 0):=by rw [cell_of_row _ _ 0 _ _ (0,0) R2];rfl
  have q1:w2.cell? ⟨w.heap.size+1,1,none⟩=some (.slice none 0 0):=by rw [cell_of_row _ _ 1 _ _ (0,0) R2];rfl
  have f0:=fzR 0 R2;have f1:=fzR 1 R2;refine onE 7 fun K hK=>?_;go_simp;refine hK.out _ _ (fun h=>absurd rfl h) ?_
  try simp only [sX]
  refine dnE ?_ _;go_wp2;refine bodyPost_ret (v:=.agg #[.slice ak E.length c1,.slice aj R.length c2]) (by simp [results,results150,go_sem,q0,q1]) rfl ⟨_,rfl,⟨_,_,rfl,?_,?_⟩,?_⟩
  · refine Qbu (B:=W0.heap.size) ?_ oB
    repeat (refine ownsRow_setCell_below ?_ oH _)
    exact ag.out
  · refine Qbu (B:=W0.heap.size) ?_ oB
    repeat (refine ownsRow_setCell_below ?_ oH _)
    exact ao.out
  · repeat (refine Below.setCell ?_ oJ _)
    exact Qac ac ad
end
section
theorem Qp3 {L:List Bn} (c n:Nat) (hn:L.length=n) (hl:n<=1048576) (hA:QaR w ao L) :
    Calls prog 206 #[.slice ao n c] w fun e w'=>∃ v,e=.returned v/\OwnB w' w.heap.size v n L/\Bw w w':=by
  obtain ⟨i0,hi,aj,ag,ah⟩:=info_parts Qle
  cases ao with
  | none=>
    have h0:n=0:=by
      rcases Nat.eq_zero_or_pos n with h | h
      · exact h
      · obtain ⟨b,ae,e,_⟩:=hA oB;cases e
    subst h0;have hq:=fun W=>Lib.run_eql_slice_nil (P:=prog) W 36 218 none 0 c 0 0 underlying36;have HN:=Qaa hn;clear hA hn;go_enter func206,ntmps206;go_wp2;go_ret;exact ⟨_,rfl,⟨HN.symm,.inl ⟨rfl,rfl⟩⟩,ZZb _ _⟩
  | some A=>
    have af:∀ j z,(fl QcQ L)[j]?=some z->w.cell? (A.add j)=some z:=fun j z hz=>by
      have hj:=(ZZd.1 hz).1;rw [Qdn Qd4] at hj;obtain ⟨b,ae,e,ac⟩:=hA oB
      cases e
      obtain ⟨x,hx⟩:∃ x,L[j / 2]?=some x:=⟨L[j / 2]'oB,ZZe oB⟩;have h1:=Qd6 Qd4 L (j / 2) x (j % 2) oB hx;rw [show j / 2*2+j % 2=j by omega,hz] at h1;have hc:=ac (j / 2) x hx;rw [Addr.add_lit];have:j % 2=0∨j % 2=1:=oB
      rcases this with e | e
      · rw [e] at h1;rw [show ae+j=ae+j / 2*2 by omega,hc.1];simpa [QcQ] using h1.symm
      · rw [e] at h1;rw [show ae+j=ae+j / 2*2+1 by omega,hc.2];simpa [QcQ] using h1.symm
    have ai:=Qaa af;have hq:=fun W=>Lib.run_eql_slice_nil (P:=prog) W 36 218 (some A) n c 0 0 underlying36;have HN:=Qaa hn;clear hA af hn;go_enter func206,ntmps206;go_wp2_with (at_builtin;refine wpList_append_own _ rfl (.tmp 5) (.tmp 6) 36 rfl w.heap.size 218 i0 (.agg #[.int .i64 0,.int .u64 0]) 2 16 underlying36 hi aj ag ah rfl oF _ _ _ rfl (World.ownsRow_made _ #[] 0 (Nat.le_refl _) (Nat.zero_le _) rfl) A n c (fl QcQ L) rfl (by rw [Qdn Qd4,HN.out]) (fun j z hz=>by have:=ai.out j z hz;exact QcF this _) (Qg8 _) oC oB oE ?_;intro v1 w1 aa ab ad;simp only [Nat.zero_add,List.nil_append] at aa;have O1:=Qaa aa;have B1:=Qaa (((Below.refl _ _).alloc (Nat.le_refl _) _).grown ab oE (fun j hj=>by cases hj;exact Nat.le_refl _));clear aa ab ad);go_ret;exact ⟨_,rfl,OwnB.of O1 HN.symm,B1⟩
theorem QkJ {z h l:Int} {pa na:Option Addr} {pn pc nn nc:Nat} {P N:List Bn} (hp:P.length=pn) (hn:N.length=nn) (lp:pn<=1048576) (ln:nn<=1048576) (hP:QaR w pa P) (hN:QaR w na N) :
    Calls prog 149 #[.agg #[.int .u64 z,.slice pa pn pc,.slice na nn nc,.int .i64 h,.int .u64 l]] w fun e w'=>∃ v,e=.returned v/\QrM w' w.heap.size v z P N h l/\Bw w w':=by
  have HP:=Qaa hP;have HN:=Qaa hN;clear hP hN;go_enter func149,ntmps149;go_wp2_with fail;generalize hW0:(w.alloc _).alloc _=W0;have T0:Bw w W0:=by rw [<- hW0];exact ((Below.refl _ _).alloc (Nat.le_refl _) _).alloc oE _
  have K0:Qe1 W0 w.heap.size z (.slice pa pn pc) (.slice na nn nc) h l:=by rw [<- hW0];exact QeA (QtZ w _ _ _ _ _ _) bAA
  have R0:W0.heap[w.heap.size+1]?=some (.cells QbF 38 (0,0)):=by rw [<- hW0];simpa using heap_alloc_new (w.alloc (Obj.cells #[.int .u64 z,.slice pa pn pc,.slice na nn nc,.int .i64 h,.int .u64 l] 38)) (Obj.cells QbF 38)
  have ao:W0.heap.size=w.heap.size+2:=by rw [<- hW0];simp
  clear hW0;have ad:=Qaa T0;have hC:∀ W,Bw W0 W->Qe1 W w.heap.size z (.slice pa pn pc) (.slice na nn nc) h l/\W.heap[w.heap.size+1]?=some (.cells QbF 38 (0,0)):=fun W hW=>⟨QeA K0 hW,by rw [hW.block _ oB];exact R0⟩;have HC:=Qaa hC;clear T0 hC K0 R0;have aa:(fun W=>Bw W0 W) W0.drew:=(ZZb _ _).drew;refine Qal (fun W=>Bw W0 W) 11 oG ?_;refine tkL 0 (.pointer (some ⟨w.heap.size,0,none⟩)) aa (fun W hW=>?_) ?_
  · obtain ⟨⟨x0,x1,x2,x3,x4⟩,_⟩:=HC.out W hW
    go_simp
  refine tkL 1 (.int .u64 z) aa (fun W hW=>?_) ?_
  · obtain ⟨⟨x0,x1,x2,x3,x4⟩,_⟩:=HC.out W hW
    go_simp
  refine tkL 2 (.pointer (some ⟨w.heap.size,1,none⟩)) aa (fun W hW=>?_) ?_
  · obtain ⟨⟨x0,x1,x2,x3,x4⟩,_⟩:=HC.out W hW
    go_simp
  simp only [sX];refine tkL 3 (.slice pa pn pc) aa (fun W hW=>?_) ?_
  · obtain ⟨⟨x0,x1,x2,x3,x4⟩,_⟩:=HC.out W hW
    go_simp
  refine tkL 5 (.pointer (some ⟨w.heap.size,2,none⟩)) aa (fun W hW=>?_) ?_
  · obtain ⟨⟨x0,x1,x2,x3,x4⟩,_⟩:=HC.out W hW
    go_simp
  refine tkL 6 (.slice na nn nc) aa (fun W hW=>?_) ?_
  · obtain ⟨⟨x0,x1,x2,x3,x4⟩,_⟩:=HC.out W hW
    go_simp
  simp only [sX];refine tkL 8 (.pointer (some ⟨w.heap.size,3,none⟩)) aa (fun W hW=>?_) ?_
  · obtain ⟨⟨x0,x1,x2,x3,x4⟩,_⟩:=HC.out W hW
    go_simp
  refine tkL 9 (.agg #[.int .i64 h,.int .u64 l]) aa (fun W hW=>?_) ?_
  · obtain ⟨⟨x0,x1,x2,x3,x4⟩,_⟩:=HC.out W hW
    go_simp
  simp only [sX];refine onE 4 fun K hK=>?_;go_simp;refine (Qp3 _ _ hp lp (Qai HP (ad.trans ((ZZb _ _).drew.mono ad.size)))).mono ?_;rintro e w1 ⟨v1,rfl,ai,am⟩;dsimp only;have ac:=Qaa ((aa:Bw W0 W0.drew).trans am);have al:=Qaa (ai.le (B':=w.heap.size) (by show w.heap.size<=W0.heap.size;omega));obtain ⟨ag,c1,rfl⟩:=ai.any;clear ai am;refine gK hK ac.out ?_
  try simp only [sX]
  refine onE 7 fun K hK=>?_;go_simp;refine (Qp3 _ _ hn ln (Qai HN (Qac ad ac))).mono ?_;rintro e w2 ⟨v2,rfl,ae,aj⟩;dsimp only;have af:=Qaa (Qac ac aj);have ak:=Qaa (ae.le (B':=w.heap.size) (oA ac.size));have ab:=Qaa (al.past aj);have ap:Hid (QjM (.slice ag pn c1) v2):=Qaa (fun k e1 e2=>by have:=(al.lt k e1).2;have:=(ae.lt k e2).1;omega);obtain ⟨an,c2,rfl⟩:=ae.any;clear ae aj;refine gK hK af.out ?_
  try simp only [sX]
  refine tkS 10 (.agg #[.int .u64 z,.slice ag pn c1,.slice an nn c2,.int .i64 h,.int .u64 l]) af ?_;simp only [sX];have R2:=(HC.out _ af).2;obtain ⟨q0,q1,q2,q3,q4⟩:=Qfi R2;obtain ⟨f0,f1,f2,f3,f4⟩:=fA5 R2;refine onE 11 fun K hK=>?_;go_simp;refine hK.out _ _ (fun h=>absurd rfl h) ?_
  try simp only [sX]
  refine dnE ?_ _;go_wp2;refine bodyPost_ret (v:=.agg #[.int .u64 z,.slice ag pn c1,.slice an nn c2,.int .i64 h,.int .u64 l]) (by simp [results,results149,go_sem,q0,q1,q2,q3,q4]) rfl ⟨_,rfl,⟨_,_,pn,nn,rfl,?_,?_,ap⟩,?_⟩
  · have ah:=ab.ne R2 oF
    repeat (refine OwnB.set ?_ ah _)
    exact ab.out
  · have ah:=ak.ne R2 oF
    repeat (refine OwnB.set ?_ ah _)
    exact ak.out
  · repeat (refine Below.setCell ?_ oJ _)
    exact Qac ad af
end
instance inhCe:Inhabited Ce:=⟨⟨0,⟨#[]⟩,Qg1,⟨none,0,none,0,none,0,none,0⟩⟩⟩
variable {d:Array Ce}
section
theorem QoS:∀ {L M:List Ce},AscC L->AscC M->L.Perm M->L=M
  | [],M,_,_,p=>by
    have:=p.length_eq
    cases M with
    | nil=>rfl
    | cons _ _=>simp at this
  | c :: L,M,h,k,p=>by
    cases M with
    | nil=>have:=p.length_eq;simp at this
    | cons d M=>
      obtain ⟨h1,h2⟩:=List.pairwise_cons.1 h;obtain ⟨k1,k2⟩:=List.pairwise_cons.1 k
      have e:c=d:=by
        rcases List.mem_cons.1 (p.mem_iff.1 (List.mem_cons_self (a:=c) (l:=L))) with e | e
        · exact e
        · rcases List.mem_cons.1 (p.mem_iff.2 (List.mem_cons_self (a:=d) (l:=M))) with e2 | e2
          · exact e2.symm
          · have q1:=k1 c e
            have q2:=h1 d e2;rw [Qfk q1] at q2;cases q2
      subst e;rw [QoS h2 k2 ((List.perm_cons _).1 p)]
def cfC (c d:Ce):Int:=QpV c.n c.s d.n d.s
theorem QtX (c d:Ce):decide (cfC c d<0)=cAh c d:=by
  have h:=Qqs c d;unfold cfC
  cases q:cAh c d
  · rw [q] at h
    have:0<=QpV c.n c.s d.n d.s:=oU
    simp;omega
  · rw [q] at h
    have:¬ 0<=QpV c.n c.s d.n d.s:=oU
    simp;omega
theorem QiE (h:Sort.SortedIn (fun x y=>decide (cfC x y<0)) 0 d.size d) (hp:d.toList.Pairwise (fun c e=>¬ Qa1 c e)):AscC d.toList:=by
  refine List.pairwise_iff_getElem.2 (fun i j hi hj hij=>?_);have h1:cAh d[j]! d[i]! = false:=by rw [<- QtX];exact h i j (Nat.zero_le _) hij (by simpa using hj)
  have ab:i<d.size:=by simpa using hi
  have ac:j<d.size:=by simpa using hj
  rw [getElem!_pos d i ab,getElem!_pos d j ac] at h1;have aa:=(List.pairwise_iff_getElem.1 hp) i j hi hj hij;simp only [Array.getElem_toList] at aa ⊢
  cases q:cAh d[i] d[j]
  · exact absurd (Qlz q h1) aa
  · rfl
end
variable {L M:List Ce}
section
theorem QmU {xs:List Ce} (h:OwnC w B (.slice (some ⟨g,0,none⟩) xs.length cp) xs):HoldsK ceL 15 w g 0 xs.toArray:=by
  intro j hj;have aa:j<xs.length*15:=by simpa using hj
  rw [Nat.zero_add];refine ⟨?_,World.ownsRow.frozenAt h j⟩;rw [World.ownsRow.cellAt h j aa,get_flatK _ _ _ _ (by simpa using aa)];have hi:j / 15<xs.length:=oB
  obtain ⟨x,hx⟩:∃ x,xs[j / 15]?=some x:=⟨_,ZZe hi⟩;have h1:=Qk3 xs (j / 15) x (j % 15) oB hx;rw [show j / 15*15+j % 15=j by omega] at h1
  have h2:xs.toArray[j / 15]! = x:=by
    have:=(ZZd.1 hx).2;simp [hi,this]
  rw [h1,h2];have hm:j % 15<(ceL x).length:=by rw [QcD];omega
  simp [hm]
theorem Ql1 (w:World) (g o n:Nat) (d:Array Ce) (os:Array Obj):w.grownBy (sortWorldK ceL 15 w g o n d os) (some g):=by
  exact mB0
theorem QkZ {α:Type} [Inhabited α] (enc:α->Value) (off:Nat) (d:Array α) (c:Array Value):(putCells enc off d c).size=c.size:=by
  unfold putCells;simp
theorem QsK {os:Array Obj} (h:OwnC w B (.slice (some ⟨g,0,none⟩) L.length cp) L) (hd:d.size=L.length) (hs:g<w.heap.size) :
    OwnC (sortWorldK ceL 15 w g 0 n d os) B (.slice (some ⟨g,0,none⟩) d.toList.length cp) d.toList:=by
  have hH:=QmU h;have ae:HoldsK ceL 15 (sortWorldK ceL 15 w g 0 n d os) g 0 d:=holdsK_sortWorldK_c _ _ _ _ _ _ d _ _ hH hs (by simp [hd]);rcases h.2 with ⟨e,q⟩ | ⟨g',af,aa,e,q1,q2,q3,q4,q5,q6⟩
  · cases e
  · injection e with e1 e2 e3
    injection e1 with e1;injection e1 with e1;subst e1;subst e3
    have hb:(sortWorldK ceL 15 w g 0 n d os).heap[g]?=some (.cells (putCells id 0 (flatK ceL 15 d) aa) 46 (0,0)):=by
      unfold sortWorldK;rw [heap_grow_old _ _ (by rw [size_putRowK];exact hs)];simp [putRowK,putRow,mapBlock,Sort.ahead,Array.getElem?_modify,q2,onCells]
    have hl:d.toList.length=L.length:=by simpa using hd
    refine ⟨by rw [Qbn],.inr ⟨g,cp,_,rfl,q1,hb,by omega,q4,by rw [QkZ,q5],?_⟩⟩;have ac:d.size*15<=(putCells id 0 (flatK ceL 15 d) aa).size:=by rw [QkZ,q5,hd];exact Nat.mul_le_mul_right _ q3
    apply List.ext_getElem?;intro j;by_cases hj:j<d.toList.length*15
    · rw [List.getElem?_take_of_lt hj]
      have ab:j<d.size*15:=by simpa using hj
      have k:=(ae j (by simpa using ab)).1;rw [Nat.zero_add,cell_of_row _ _ _ _ _ (0,0) hb,get_flatK _ _ _ _ ab] at k;have hi:j / 15<d.toList.length:=oB
      obtain ⟨x,hx⟩:∃ x,d.toList[j / 15]?=some x:=⟨_,ZZe hi⟩;have h1:=Qk3 d.toList (j / 15) x (j % 15) oB hx;rw [show j / 15*15+j % 15=j by omega] at h1;have ad:j / 15<d.size:=by simpa using hi
      have h2:d[j / 15]! = x:=by
        have:=(ZZd.1 hx).2;rw [getElem!_pos d _ ad]
        simpa using this
      rw [h2] at k;rw [Array.getElem?_toList,k,h1];have hm:j % 15<(ceL x).length:=by rw [QcD];omega
      simp [hm]
    · rw [List.getElem?_eq_none oH,List.getElem?_eq_none (by rw [Qbn];omega)]
end
section
theorem Qrf (fv:Value) (w:World):Calls prog 154 #[.slice none 0 0,.int .i64 0,.int .i64 0,fv] w fun e w'=>e=.returned (.tuple #[])/\w'=w:=by
  go_enter func154,ntmps154;go_wp2;refine wp_loop_rounds 1 ?_;rw [rounds_succ];go_wp2
  go_end0
  exact ⟨rfl,rfl⟩
theorem QoI (lim:Int) (fv:Value) (w:World):Calls prog 103 #[.slice none 0 0,.int .i64 0,.int .i64 0,.int .i64 lim,fv] w fun e w'=>e=.returned (.tuple #[])/\w'=w:=by
  go_enter func103,ntmps103;go_wp2;refine wp_loop_rounds 1 ?_;rw [rounds_succ];go_wp2_with (go_at_call 154;refine (Qrf _ _).mono ?_;rintro e w' ⟨rfl,hw⟩;obtain rfl:=hw.symm)
  (try simp only [Exit.inBlock,Exit.then])
  refine bodyPost_ret (results_none rfl _ _ _) rfl ?_;exact ⟨rfl,rfl⟩
theorem Qoi (w:World):Calls prog 104 #[.int .u64 0] w fun e w'=>(∃ l,e=.returned (.int .i64 l))/\w'=w:=by
  go_enter func104,ntmps104;go_wp2;go_ret;exact ⟨⟨_,rfl⟩,rfl⟩
theorem QnL (fv:Value) (w:World):Calls prog 59 #[.slice none 0 0,fv] w fun e w'=>e=.returned (.tuple #[])/\w'=w:=by
  go_enter func59,ntmps59
  go_wp2_with (first
    | (go_at_call 104;refine (Qoi _).mono ?_;rintro e w' ⟨⟨l,rfl⟩,hw⟩;obtain rfl:=hw.symm)
    | (go_at_call 103;refine (QoI _ _ _).mono ?_;rintro e w' ⟨rfl,hw⟩;obtain rfl:=hw.symm))
  go_end0
  exact ⟨rfl,rfl⟩
theorem Qou {a b c:Ce} (h:cAh a b=false) (k:cAh b c=false):cAh a c=false:=by
  unfold cAh at *;simp only [Bool.or_eq_false_iff,Bool.and_eq_false_iff,decide_eq_false_iff_not,beq_eq_false_iff_ne] at *;refine ⟨by omega,?_⟩;by_cases e:a.n=c.n
  · have e1:a.n=b.n:=by omega
    have e2:b.n=c.n:=oB
    exact .inr (QgM (k.2.resolve_left (fun q=>q e2)) (h.2.resolve_left (fun q=>q e1)))
  · exact .inl e
theorem swoCe:SWO (ltOf cfC):=by
  have e:ltOf cfC=cAh:=by funext x y;exact QtX x y
  rw [e];exact ⟨QgS,fun a b c=>Qdm,fun a b c=>Qou⟩
theorem QnM (hL:AscC L) (hp:M.Perm L) (p:PermIn 0 M.length M.toArray d) (hs:SortedIn (ltOf cfC) 0 M.length d):d.toList=L/\d.size=M.length:=by
  obtain ⟨hz,_,ab⟩:=p;have aa:d.size=M.length:=by simpa using hz
  have e1:d.extract 0 M.length=d:=by rw [<- aa];simp
  have e2:M.toArray.extract 0 M.length=M.toArray:=oE
  rw [e1,e2] at ab;have pL:d.toList.Perm L:=ab.trans (by simpa using hp);rw [<- aa] at hs;have ap:d.toList.Pairwise (fun c e=>¬ Qa1 c e):=(pL.symm.pairwise_iff (fun {a b} (q:¬ Qa1 a b)=>fun e=>q ⟨e.1.symm,e.2.symm⟩)).1 hL.ap;exact ⟨QoS (QiE hs ap) hL pL,aa⟩
theorem eg_cmp:∀ args w,(callFunc 60 args).run prog w=.ok (.enter 60 args) w:=enters_of func60 oG rfl
theorem Qez (hL:AscC L) (hp:M.Perm L) (lM:M.length<=1048576) (h:OwnC w B v M) :
    Calls prog 59 #[v,.func (.func 60) #[] #[]] w fun e w'=>e=.returned (.tuple #[])/\OwnC w' B v L/\Below B w w'/\w.grownBy w' v.ownBlock:=by
  rcases h.2 with ⟨rfl,q⟩ | ⟨g,af,ag,rfl,q1,q2,q3⟩
  · have e0:M=[]:=List.eq_nil_of_length_eq_zero q
    subst e0
    obtain rfl:L=[]:=by
      have:=hp.length_eq;exact List.eq_nil_of_length_eq_zero (by simpa using this.symm)
    refine (QnL _ w).mono ?_;rintro e w' ⟨rfl,rfl⟩;exact ⟨rfl,h,ZZb _ _,World.grownBy.refl _ _⟩
  · have ab:g<w.heap.size:=(ZZc.1 q2).1
    have hH:=QmU h;have aa:=AnyQ.slices_SortFunc (α:=Ce) Tryz.laysSort 15 Tryz.isAgg46 Tryz.sizeOf46 ceL QcD QcG cfC swoCe 60 #[] g 0 af M.toArray w eg_cmp (fun _ _ _ _ x y=>(QgG x y).mono (fun e w' q=>⟨q.1,q.2.to⟩)) hH ab oH;have ac:M.toArray.size=M.length:=oE
    rw [ac] at aa
    change Calls prog 59 _ _ _ at aa
    refine aa.mono ?_;rintro e w' ⟨rfl,d',n,os,ad,ae,rfl⟩;obtain ⟨e1,e2⟩:=QnM hL hp ad ae;have ho:=QsK (n:=n) (os:=os) h e2 ab;rw [e1] at ho;have hl:L.length=M.length:=by rw [<- e1,Array.length_toList,e2]
    rw [hl] at ho;have hg:=Ql1 w g 0 n d' os;exact ⟨rfl,ho,(ZZb B w).grown hg (Nat.le_trans q1 (Nat.le_of_lt ab)) (fun j hj=>by cases hj;exact q1),hg⟩
end
section
theorem QkQ {g:Ag} {p:Pl} (sm:AgSm g) (pl:PlG g p) (hA:AgAt w g p) :
    Calls prog 97 #[.agg (Qau g p)] w fun e w'=>AgRes w (fun o=>o=g) e w':=by
  have SM:=Qaa sm;have PL:=Qaa pl;have HA:=Qaa hA;clear sm pl hA;obtain ⟨ad,HC⟩:=QtO w g p;have aq:=Qpf w (.cells (Qau g p) 44) (.cells z13 44);go_enter func97,ntmps97;go_wp2_with fail;generalize (w.alloc _).alloc _=W0 at ad HC aq ⊢;have ac:Hid (Bw W0 W0.drew):=(ZZb _ _).drew;have ag:(fun W=>W.cell? ⟨w.heap.size,11,none⟩=some (.slice p.ea g.E.length p.ec)/\W.cell? ⟨w.heap.size,12,none⟩=some (.slice p.ra g.R.length p.rc)) W0.drew:=⟨Qe9 (HC.out _ ac).1 11 rfl,Qe9 (HC.out _ ac).1 12 rfl⟩;refine Qal (fun W=>W.cell? ⟨w.heap.size,11,none⟩=some (.slice p.ea g.E.length p.ec)/\W.cell? ⟨w.heap.size,12,none⟩=some (.slice p.ra g.R.length p.rc)) 9 oG ?_;refine tkS 0 (.pointer (some ⟨w.heap.size,6,none⟩)) ag ?_;refine tkS 3 (.pointer (some ⟨w.heap.size,11,none⟩)) ag ?_;refine tkL 4 (.agg #[.slice p.ea g.E.length p.ec,.slice p.ra g.R.length p.rc]) ag (fun W hW=>?_) ?_
  · have aC:=hW.1
    have aD:=hW.2;exact mAo
  simp only [sX];have av:=Qaa (HC.out _ ac).1;obtain ⟨q0,q1,q2,q3,q4,q5,q6,q7,q8,q9,aj,ak,ai⟩:=Qde av;refine onE 1 fun K hK=>?_;go_simp;refine gK hK ag ?_
  try simp only [sX]
  clear q0 q1 q2 q3 q4 q5 q6 q7 q8 q9 aj ak ai;refine onE 2 fun K hK=>?_;go_simp;refine (QkJ rfl rfl SM.P SM.N (Qai HA.P (Qac ad ac)) (Qai HA.N (Qac ad ac))).mono ?_;rintro e w1 ⟨v1,rfl,⟨vp,vn,pn,nn,rfl,o1,o2,ao⟩,am⟩;obtain ⟨pa,pc,rfl⟩:=o1.any;obtain ⟨na,nc,rfl⟩:=o2.any;obtain rfl:=o1.1;obtain rfl:=o2.1;have aa:Hid (Bw W0 w1):=Qac ac am;have ab:=Qaa (And.intro (o1.le (show W0.heap.size<=W0.drew.heap.size from ZZa _)) (And.intro (o2.le (show W0.heap.size<=W0.drew.heap.size from ZZa _)) ao));have al:(fun W=>W.cell? ⟨w.heap.size,11,none⟩=some (.slice p.ea g.E.length p.ec)/\W.cell? ⟨w.heap.size,12,none⟩=some (.slice p.ra g.R.length p.rc)) w1:=⟨Qe9 (HC.out _ aa).1 11 rfl,Qe9 (HC.out _ aa).1 12 rfl⟩;clear o1 o2 ao am;dsimp only;refine gK hK al ?_
  try simp only [sX]
  refine tkS 6 (.pointer (some ⟨w.heap.size,6,none⟩)) al ?_;simp only [sX];refine onE 5 fun K hK=>?_;go_simp;refine (Qql rfl rfl SM.E SM.R PL.fE PL.fR (Qak HA.E (Qac ad aa)) (Qak HA.R (Qac ad aa))).mono ?_;rintro e w2 ⟨v2,rfl,⟨ve,vr,rfl,o3,o4⟩,ae⟩;obtain ⟨ea,ec,rfl⟩:=Qan o3;obtain ⟨ra,rc,rfl⟩:=Qan o4;have ah:Hid (Bw W0 w2):=Qac aa ae;have an:=Qaa (And.intro (Qbu o3 aa.size) (Qbu o4 aa.size));have ab:=Qaa (And.intro (ab.1.past ae) (And.intro (ab.2.1.past ae) ab.2.2));have aw:(fun W=>W.cell? ⟨w.heap.size,11,none⟩=some (.slice p.ea g.E.length p.ec)/\W.cell? ⟨w.heap.size,12,none⟩=some (.slice p.ra g.R.length p.rc)) w2:=⟨Qe9 (HC.out _ ah).1 11 rfl,Qe9 (HC.out _ ah).1 12 rfl⟩;clear o3 o4 ae;dsimp only;refine gK hK aw ?_
  try simp only [sX]
  have af:=Qaa (HC.out _ ah);obtain ⟨q0,q1,q2,q3,q4,q5,q6,q7,q8,q9,aj,ak,ai⟩:=Qde af.1;obtain ⟨f0,f1,f2,f3,f4,f5,f6,f7,f8,f9,aE,az,ay⟩:=Qhr af.1;obtain ⟨z0,z1,z2,z3,z4,z5,z6,z7,z8,z9,ar,au,ap⟩:=Qde af.2;obtain ⟨k0,k1,k2,k3,k4,k5,k6,k7,k8,k9,aA,aB,ax⟩:=Qhr af.2;refine onE 7 fun K hK=>?_;go_simp;refine hK.out _ _ (fun _=>(by constructor <;> go_simp)) ?_
  try simp only [sX]
  refine Qs7 (i:=8) (d:=10) (v:=.pointer (some ⟨w.heap.size,11,none⟩)) rfl rfl oG oG oG oF oG (fun _ _ _ h=>h) (Or.inl ⟨by rfl,fun W hW=>?_⟩) (by constructor <;> go_simp) ?_
  · clear hW
    go_simp
  simp only [sX];refine onE 9 fun K hK=>?_;go_simp;refine hK.out _ _ (fun h=>absurd rfl h) ?_
  try simp only [sX]
  refine dnE ?_ _;go_wp2;refine bodyPost_ret (v:=.agg (Qau g ⟨pa,pc,na,nc,ea,ec,ra,rc⟩)) (by simp [results,results97,go_sem,q0,q1,q2,q3,q4,q5,q6,q7,q8,q9,aj,ak,ai,z0,z1,z2,z3,z4,z5,z6,z7,z8,z9,ar,au,ap]) rfl (AgRes.mk (o:=g) (p:=⟨pa,pc,na,nc,ea,ec,ra,rc⟩) rfl ?_ ?_)
  · refine AgO.le (B:=W0.heap.size) ?_ oB
    repeat (refine AgO.below ?_ oB _)
    exact ⟨ab.1,ab.2.1,ab.2.2,⟨rfl,an.1⟩,⟨rfl,an.2⟩⟩
  · repeat (refine Below.setCell ?_ oJ _)
    exact Qac ad ah
end
variable {c':Ce}
section
theorem Qrp:∀ (L:List Ce) (i:Nat) (c c':Ce) (j:Nat) (u:Value),j<15->L[i]?=some c->ceL c'=(ceL c).set j u->(flC L).set (i*15+j) u=flC (L.set i c')
  | [],i,c,c',j,u,hj,h,e=>by simp at h
  | x :: xs,0,c,c',j,u,hj,h,e=>by
    obtain rfl:x=c:=oU
    rw [Qc5,List.set_append_left _ _ xQ,List.set_cons_zero,Qc5,e,Nat.zero_mul,Nat.zero_add]
  | x :: xs,i+1,c,c',j,u,hj,h,e=>by
    rw [Qc5,List.set_append_right _ _ xQ,QcD,List.set_cons_succ,Qc5,<- Qrp xs i c c' j u hj oU e,show (i+1)*15+j - 15=i*15+j by omega]
theorem OwnC.put1 {j:Nat} {c:Ce} {u:Value} (h:OwnC w B (.slice (some ⟨g,0,none⟩) n cp) L) (hn:L.length=n) (hc:L[i]?=some c) (hj:j<15) (e:ceL c'=(ceL c).set j u):OwnC (w.setCell ⟨g,i*15+j,none⟩ u) B (.slice (some ⟨g,0,none⟩) n cp) (L.set i c'):=by
  subst hn;have q:=(World.ownsRow.stored h (i*15+j) u).1;rw [Qrp L i c c' j u hj hc e] at q
  show World.ownsRow _ _ _ _ _ _ _
  rw [List.length_set];exact q
end
variable {o:Ag}
variable {q:Pl}
section
theorem OwnC.putAg {c:Ce} (h0:OwnC w B (.slice (some ⟨g,0,none⟩) n cp) L) (hn:L.length=n) (hc:L[i]?=some c) :
    OwnC (((((((((((((w.setCell ⟨g,i*15+2,none⟩ (.int .i64 o.k)).setCell ⟨g,i*15+3,none⟩ (.int .u64 o.s)).setCell ⟨g,i*15+4,none⟩ (.int .i64 o.h)).setCell ⟨g,i*15+5,none⟩ (.int .u64 o.l)).setCell ⟨g,i*15+6,none⟩ (.int .i64 o.a)).setCell ⟨g,i*15+7,none⟩ (.int .i64 o.t)).setCell ⟨g,i*15+8,none⟩ (.int .u64 o.z)).setCell ⟨g,i*15+9,none⟩ (.slice q.pa o.P.length q.pc)).setCell ⟨g,i*15+10,none⟩ (.slice q.na o.N.length q.nc)).setCell ⟨g,i*15+11,none⟩ (.int .i64 o.x)).setCell ⟨g,i*15+12,none⟩ (.int .u64 o.y)).setCell ⟨g,i*15+13,none⟩ (.slice q.ea o.E.length q.ec)).setCell ⟨g,i*15+14,none⟩ (.slice q.ra o.R.length q.rc)) B (.slice (some ⟨g,0,none⟩) n cp) (L.set i ⟨c.n,c.s,o,q⟩):=by
  have hi:i<L.length:=(ZZd.1 hc).1;have h1:=OwnC.put1 (j:=2) (c:=(⟨c.n,c.s,⟨c.g.k,c.g.s,c.g.h,c.g.l,c.g.a,c.g.t,c.g.z,c.g.P,c.g.N,c.g.x,c.g.y,c.g.E,c.g.R⟩,⟨c.p.pa,c.p.pc,c.p.na,c.p.nc,c.p.ea,c.p.ec,c.p.ra,c.p.rc⟩⟩:Ce)) (c':=(⟨c.n,c.s,⟨o.k,c.g.s,c.g.h,c.g.l,c.g.a,c.g.t,c.g.z,c.g.P,c.g.N,c.g.x,c.g.y,c.g.E,c.g.R⟩,⟨c.p.pa,c.p.pc,c.p.na,c.p.nc,c.p.ea,c.p.ec,c.p.ra,c.p.rc⟩⟩:Ce)) (u:=.int .i64 o.k) h0 oV hc oF rfl;have h2:=OwnC.put1 (j:=3) (c:=(⟨c.n,c.s,⟨o.k,c.g.s,c.g.h,c.g.l,c.g.a,c.g.t,c.g.z,c.g.P,c.g.N,c.g.x,c.g.y,c.g.E,c.g.R⟩,⟨c.p.pa,c.p.pc,c.p.na,c.p.nc,c.p.ea,c.p.ec,c.p.ra,c.p.rc⟩⟩:Ce)) (c':=(⟨c.n,c.s,⟨o.k,o.s,c.g.h,c.g.l,c.g.a,c.g.t,c.g.z,c.g.P,c.g.N,c.g.x,c.g.y,c.g.E,c.g.R⟩,⟨c.p.pa,c.p.pc,c.p.na,c.p.nc,c.p.ea,c.p.ec,c.p.ra,c.p.rc⟩⟩:Ce)) (u:=.int .u64 o.s) h1 oV (List.getElem?_set_self hi) oF rfl;rw [List.set_set] at h2;have h3:=OwnC.put1 (j:=4) (c:=(⟨c.n,c.s,⟨o.k,o.s,c.g.h,c.g.l,c.g.a,c.g.t,c.g.z,c.g.P,c.g.N,c.g.x,c.g.y,c.g.E,c.g.R⟩,⟨c.p.pa,c.p.pc,c.p.na,c.p.nc,c.p.ea,c.p.ec,c.p.ra,c.p.rc⟩⟩:Ce)) (c':=(⟨c.n,c.s,⟨o.k,o.s,o.h,c.g.l,c.g.a,c.g.t,c.g.z,c.g.P,c.g.N,c.g.x,c.g.y,c.g.E,c.g.R⟩,⟨c.p.pa,c.p.pc,c.p.na,c.p.nc,c.p.ea,c.p.ec,c.p.ra,c.p.rc⟩⟩:Ce)) (u:=.int .i64 o.h) h2 oV (List.getElem?_set_self hi) oF rfl;rw [List.set_set] at h3;have h4:=OwnC.put1 (j:=5) (c:=(⟨c.n,c.s,⟨o.k,o.s,o.h,c.g.l,c.g.a,c.g.t,c.g.z,c.g.P,c.g.N,c.g.x,c.g.y,c.g.E,c.g.R⟩,⟨c.p.pa,c.p.pc,c.p.na,c.p.nc,c.p.ea,c.p.ec,c.p.ra,c.p.rc⟩⟩:Ce)) (c':=(⟨c.n,c.s,⟨o.k,o.s,o.h,o.l,c.g.a,c.g.t,c.g.z,c.g.P,c.g.N,c.g.x,c.g.y,c.g.E,c.g.R⟩,⟨c.p.pa,c.p.pc,c.p.na,c.p.nc,c.p.ea,c.p.ec,c.p.ra,c.p.rc⟩⟩:Ce)) (u:=.int .u64 o.l) h3 oV (List.getElem?_set_self hi) oF rfl;rw [List.set_set] at h4;have h5:=OwnC.put1 (j:=6) (c:=(⟨c.n,c.s,⟨o.k,o.s,o.h,o.l,c.g.a,c.g.t,c.g.z,c.g.P,c.g.N,c.g.x,c.g.y,c.g.E,c.g.R⟩,⟨c.p.pa,c.p.pc,c.p.na,c.p.nc,c.p.ea,c.p.ec,c.p.ra,c.p.rc⟩⟩:Ce)) (c':=(⟨c.n,c.s,⟨o.k,o.s,o.h,o.l,o.a,c.g.t,c.g.z,c.g.P,c.g.N,c.g.x,c.g.y,c.g.E,c.g.R⟩,⟨c.p.pa,c.p.pc,c.p.na,c.p.nc,c.p.ea,c.p.ec,c.p.ra,c.p.rc⟩⟩:Ce)) (u:=.int .i64 o.a) h4 oV (List.getElem?_set_self hi) oF rfl;rw [List.set_set] at h5;have h6:=OwnC.put1 (j:=7) (c:=(⟨c.n,c.s,⟨o.k,o.s,o.h,o.l,o.a,c.g.t,c.g.z,c.g.P,c.g.N,c.g.x,c.g.y,c.g.E,c.g.R⟩,⟨c.p.pa,c.p.pc,c.p.na,c.p.nc,c.p.ea,c.p.ec,c.p.ra,c.p.rc⟩⟩:Ce)) (c':=(⟨c.n,c.s,⟨o.k,o.s,o.h,o.l,o.a,o.t,c.g.z,c.g.P,c.g.N,c.g.x,c.g.y,c.g.E,c.g.R⟩,⟨c.p.pa,c.p.pc,c.p.na,c.p.nc,c.p.ea,c.p.ec,c.p.ra,c.p.rc⟩⟩:Ce)) (u:=.int .i64 o.t) h5 oV (List.getElem?_set_self hi) oF rfl;rw [List.set_set] at h6;have h7:=OwnC.put1 (j:=8) (c:=(⟨c.n,c.s,⟨o.k,o.s,o.h,o.l,o.a,o.t,c.g.z,c.g.P,c.g.N,c.g.x,c.g.y,c.g.E,c.g.R⟩,⟨c.p.pa,c.p.pc,c.p.na,c.p.nc,c.p.ea,c.p.ec,c.p.ra,c.p.rc⟩⟩:Ce)) (c':=(⟨c.n,c.s,⟨o.k,o.s,o.h,o.l,o.a,o.t,o.z,c.g.P,c.g.N,c.g.x,c.g.y,c.g.E,c.g.R⟩,⟨c.p.pa,c.p.pc,c.p.na,c.p.nc,c.p.ea,c.p.ec,c.p.ra,c.p.rc⟩⟩:Ce)) (u:=.int .u64 o.z) h6 oV (List.getElem?_set_self hi) oF rfl;rw [List.set_set] at h7;have h8:=OwnC.put1 (j:=9) (c:=(⟨c.n,c.s,⟨o.k,o.s,o.h,o.l,o.a,o.t,o.z,c.g.P,c.g.N,c.g.x,c.g.y,c.g.E,c.g.R⟩,⟨c.p.pa,c.p.pc,c.p.na,c.p.nc,c.p.ea,c.p.ec,c.p.ra,c.p.rc⟩⟩:Ce)) (c':=(⟨c.n,c.s,⟨o.k,o.s,o.h,o.l,o.a,o.t,o.z,o.P,c.g.N,c.g.x,c.g.y,c.g.E,c.g.R⟩,⟨q.pa,q.pc,c.p.na,c.p.nc,c.p.ea,c.p.ec,c.p.ra,c.p.rc⟩⟩:Ce)) (u:=.slice q.pa o.P.length q.pc) h7 oV (List.getElem?_set_self hi) oF rfl;rw [List.set_set] at h8;have h9:=OwnC.put1 (j:=10) (c:=(⟨c.n,c.s,⟨o.k,o.s,o.h,o.l,o.a,o.t,o.z,o.P,c.g.N,c.g.x,c.g.y,c.g.E,c.g.R⟩,⟨q.pa,q.pc,c.p.na,c.p.nc,c.p.ea,c.p.ec,c.p.ra,c.p.rc⟩⟩:Ce)) (c':=(⟨c.n,c.s,⟨o.k,o.s,o.h,o.l,o.a,o.t,o.z,o.P,o.N,c.g.x,c.g.y,c.g.E,c.g.R⟩,⟨q.pa,q.pc,q.na,q.nc,c.p.ea,c.p.ec,c.p.ra,c.p.rc⟩⟩:Ce)) (u:=.slice q.na o.N.length q.nc) h8 oV (List.getElem?_set_self hi) oF rfl;rw [List.set_set] at h9;have aa:=OwnC.put1 (j:=11) (c:=(⟨c.n,c.s,⟨o.k,o.s,o.h,o.l,o.a,o.t,o.z,o.P,o.N,c.g.x,c.g.y,c.g.E,c.g.R⟩,⟨q.pa,q.pc,q.na,q.nc,c.p.ea,c.p.ec,c.p.ra,c.p.rc⟩⟩:Ce)) (c':=(⟨c.n,c.s,⟨o.k,o.s,o.h,o.l,o.a,o.t,o.z,o.P,o.N,o.x,c.g.y,c.g.E,c.g.R⟩,⟨q.pa,q.pc,q.na,q.nc,c.p.ea,c.p.ec,c.p.ra,c.p.rc⟩⟩:Ce)) (u:=.int .i64 o.x) h9 oV (List.getElem?_set_self hi) oF rfl;rw [List.set_set] at aa;have ac:=OwnC.put1 (j:=12) (c:=(⟨c.n,c.s,⟨o.k,o.s,o.h,o.l,o.a,o.t,o.z,o.P,o.N,o.x,c.g.y,c.g.E,c.g.R⟩,⟨q.pa,q.pc,q.na,q.nc,c.p.ea,c.p.ec,c.p.ra,c.p.rc⟩⟩:Ce)) (c':=(⟨c.n,c.s,⟨o.k,o.s,o.h,o.l,o.a,o.t,o.z,o.P,o.N,o.x,o.y,c.g.E,c.g.R⟩,⟨q.pa,q.pc,q.na,q.nc,c.p.ea,c.p.ec,c.p.ra,c.p.rc⟩⟩:Ce)) (u:=.int .u64 o.y) aa oV (List.getElem?_set_self hi) oF rfl;rw [List.set_set] at ac;have ab:=OwnC.put1 (j:=13) (c:=(⟨c.n,c.s,⟨o.k,o.s,o.h,o.l,o.a,o.t,o.z,o.P,o.N,o.x,o.y,c.g.E,c.g.R⟩,⟨q.pa,q.pc,q.na,q.nc,c.p.ea,c.p.ec,c.p.ra,c.p.rc⟩⟩:Ce)) (c':=(⟨c.n,c.s,⟨o.k,o.s,o.h,o.l,o.a,o.t,o.z,o.P,o.N,o.x,o.y,o.E,c.g.R⟩,⟨q.pa,q.pc,q.na,q.nc,q.ea,q.ec,c.p.ra,c.p.rc⟩⟩:Ce)) (u:=.slice q.ea o.E.length q.ec) ac oV (List.getElem?_set_self hi) oF rfl;rw [List.set_set] at ab;have ad:=OwnC.put1 (j:=14) (c:=(⟨c.n,c.s,⟨o.k,o.s,o.h,o.l,o.a,o.t,o.z,o.P,o.N,o.x,o.y,o.E,c.g.R⟩,⟨q.pa,q.pc,q.na,q.nc,q.ea,q.ec,c.p.ra,c.p.rc⟩⟩:Ce)) (c':=(⟨c.n,c.s,⟨o.k,o.s,o.h,o.l,o.a,o.t,o.z,o.P,o.N,o.x,o.y,o.E,o.R⟩,⟨q.pa,q.pc,q.na,q.nc,q.ea,q.ec,q.ra,q.rc⟩⟩:Ce)) (u:=.slice q.ra o.R.length q.rc) ab oV (List.getElem?_set_self hi) oF rfl;rw [List.set_set] at ad;exact ad
theorem QlN:w.grownBy (((((((((((((w.setCell ⟨g,i*15+2,none⟩ (.int .i64 o.k)).setCell ⟨g,i*15+3,none⟩ (.int .u64 o.s)).setCell ⟨g,i*15+4,none⟩ (.int .i64 o.h)).setCell ⟨g,i*15+5,none⟩ (.int .u64 o.l)).setCell ⟨g,i*15+6,none⟩ (.int .i64 o.a)).setCell ⟨g,i*15+7,none⟩ (.int .i64 o.t)).setCell ⟨g,i*15+8,none⟩ (.int .u64 o.z)).setCell ⟨g,i*15+9,none⟩ (.slice q.pa o.P.length q.pc)).setCell ⟨g,i*15+10,none⟩ (.slice q.na o.N.length q.nc)).setCell ⟨g,i*15+11,none⟩ (.int .i64 o.x)).setCell ⟨g,i*15+12,none⟩ (.int .u64 o.y)).setCell ⟨g,i*15+13,none⟩ (.slice q.ea o.E.length q.ec)).setCell ⟨g,i*15+14,none⟩ (.slice q.ra o.R.length q.rc)) (some g):=
  ((((((((((((Qah _ _ _ _).trans (Qah _ _ _ _)).trans (Qah _ _ _ _)).trans (Qah _ _ _ _)).trans (Qah _ _ _ _)).trans (Qah _ _ _ _)).trans (Qah _ _ _ _)).trans (Qah _ _ _ _)).trans (Qah _ _ _ _)).trans (Qah _ _ _ _)).trans (Qah _ _ _ _)).trans (Qah _ _ _ _)).trans (Qah _ _ _ _)
theorem QoQ {c:Ce} (hc:L[i]?=some c):L.set i c'=L.take i ++ c' :: L.drop (i+1)/\L=L.take i ++ c :: L.drop (i+1):=by
  obtain ⟨hi,e⟩:=ZZd.1 hc;constructor
  · rw [List.set_eq_take_append_cons_drop,if_pos hi]
  · rw [<- e,<- List.drop_eq_getElem_cons hi,List.take_append_drop]
end
end Go.Proofs.YtioohanfodmddaaGreatDoor
