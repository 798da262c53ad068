/-
 Parts.
-/
import Derived.Test.YtlejlgldgafljaaGreatDoorVXB
import Derived.Deep.Draws
import Derived.Laws.CopyOwn
import Derived.Sort.Grow
set_option maxRecDepth 10000
set_option maxHeartbeats 8000000
set_option linter.all false
namespace Go.Proofs.YtlejlgldgafljaaGreatDoor
open Go.ChangeShapes Go.WideShapes Go.ChangeAt Go.RowKit Go.PlainAid Go.Lib Go.Maps Go.Shelf Tryz
open Go.Sort hiding Below
variable {w:World}
section
structure Grw (w w':World):Prop where
  b:Bw w w'
  d:w.drawn<=w'.drawn
theorem Grw.to {w':World} (h:Grw w w'):∃ q os',w'=Sort.grow (w.drewN q) os':=by
  obtain ⟨hb,hd⟩:=h;refine ⟨w'.drawn - w.drawn,w'.heap.extract w.heap.size w'.heap.size,?_⟩;have h1:=hb.os;have h2:=hb.tape;have h3:=hb.output;have h4:=hb.size
  have h5:w'.heap=w.heap ++ w'.heap.extract w.heap.size w'.heap.size:=by
    apply Array.ext_getElem?;intro i;by_cases hi:i<w.heap.size
    · rw [Array.getElem?_append_left hi];exact hb.block i hi
    · rw [Array.getElem?_append_right (by omega)]
      by_cases hj:i<w'.heap.size
      · have e:w.heap.size+(i - w.heap.size)=i:=by omega
        rw [Array.getElem?_extract_of_lt (by omega),Array.getElem?_eq_getElem hj];simp only [e]
      · rw [Array.getElem?_eq_none (by omega),Array.getElem?_eq_none (by simp;omega)]
  obtain ⟨hp,tp,dr,os,ou⟩:=w;obtain ⟨ab,aa,ac,os',ad⟩:=w';simp only at h1 h2 h3 h4 h5 hd;unfold Sort.grow World.drewN;simp only [World.mk.injEq];exact ⟨h5,h2,by omega,h1,h3⟩
theorem Qmw (c:Ce) (w:World):Calls prog 109 #[.agg (Qan c)] w fun e w'=>e=.returned (.agg #[.int .i64 c.n,.string c.s])/\Grw w w':=by
  go_enter func109,ntmps109;go_wp2;refine bodyPost_ret (v:=.agg #[.int .i64 c.n,.string c.s]) (by simp [results,results109,go_sem]) rfl ⟨rfl,?_,?_⟩
  · first
    | exact ((Below.refl _ _).alloc (Nat.le_refl _) _).alloc (by simp) _
    | (repeat (refine Below.setCell ?_ (by simp) _)
       exact ((Below.refl _ _).alloc (Nat.le_refl _) _).alloc (by simp) _)
  · exact ZZa _
theorem Qht (n:Int) (s:ByteArray) (n':Int) (s':ByteArray) (w:World) :
    Calls prog 108 #[.agg #[.int .i64 n,.string s],.agg #[.int .i64 n',.string s']] w fun e w'=>e=.returned (.int .i64 (Qp0 n s n' s'))/\Grw w w':=by
  have ag:Hid (∀ o o',Bw w ((w.alloc o).alloc o')):=fun o o'=>((Below.refl _ _).alloc (Nat.le_refl _) o).alloc (by simp) o'
  have HN:Hid (∀ T,((w.alloc (.cells #[.int .i64 n,.string s] T)).alloc (.cells #[.int .i64 n',.string s'] T)).heap[w.heap.size]?=some (.cells #[.int .i64 n,.string s] T (0,0))/\((w.alloc (.cells #[.int .i64 n,.string s] T)).alloc (.cells #[.int .i64 n',.string s'] T)).heap[w.heap.size+1]?=some (.cells #[.int .i64 n',.string s'] T (0,0))):=fun T=>by
    have k0:=ZZk w (.cells #[.int .i64 n,.string s] T);have k1:=ZZk (w.alloc (.cells #[.int .i64 n,.string s] T)) (.cells #[.int .i64 n',.string s'] T);simp only [World.size_alloc] at k1;exact ⟨(((Below.refl (w.alloc (.cells #[.int .i64 n,.string s] T)).heap.size (w.alloc (.cells #[.int .i64 n,.string s] T))).alloc (Nat.le_refl _) (.cells #[.int .i64 n',.string s'] T)).block _ (by simp)).trans k0,k1⟩
  go_enter func108,ntmps108;go_wp2_with fail;have HR:=Qaa (HN.out 151);have af:=Qaa (ag.out (.cells #[.int .i64 n,.string s] 151) (.cells #[.int .i64 n',.string s'] 151));have ac:((w.alloc (.cells #[.int .i64 n,.string s] 151)).alloc (.cells #[.int .i64 n',.string s'] 151)).heap.size=w.heap.size+1+1:=by simp
  have ae:w.drawn<=((w.alloc (.cells #[.int .i64 n,.string s] 151)).alloc (.cells #[.int .i64 n',.string s'] 151)).drawn:=ZZa _;have ad:=Qaa ae;clear ae;generalize (w.alloc _).alloc _=W0 at HR af ad ac ⊢;clear HN ag;have R0:(fun W=>W.heap[w.heap.size]?=some (.cells #[.int .i64 n,.string s] 151 (0,0))/\W.heap[w.heap.size+1]?=some (.cells #[.int .i64 n',.string s'] 151 (0,0))) W0.drew:=HR.out;refine Qal (fun W=>W.heap[w.heap.size]?=some (.cells #[.int .i64 n,.string s] 151 (0,0))/\W.heap[w.heap.size+1]?=some (.cells #[.int .i64 n',.string s'] 151 (0,0))) 12 (by kernel_rfl) ?_;refine tkL 0 (.pointer (some ⟨w.heap.size,0,none⟩)) R0 (fun W hW=>?_) ?_
  · have x0:=QaX hW.1 0 rfl
    have x1:=Qah hW.1 1 rfl;have y0:=Qah hW.2 0 rfl;have y1:=Qah hW.2 1 rfl;clear hW;go_simp
  refine tkL 1 (.int .i64 n) R0 (fun W hW=>?_) ?_
  · have x0:=QaX hW.1 0 rfl
    have x1:=Qah hW.1 1 rfl;have y0:=Qah hW.2 0 rfl;have y1:=Qah hW.2 1 rfl;clear hW;go_simp
  refine tkL 2 (.pointer (some ⟨w.heap.size+1,0,none⟩)) R0 (fun W hW=>?_) ?_
  · have x0:=QaX hW.1 0 rfl
    have x1:=Qah hW.1 1 rfl;have y0:=Qah hW.2 0 rfl;have y1:=Qah hW.2 1 rfl;clear hW;go_simp
  simp only [sX];refine tkL 3 (.int .i64 n') R0 (fun W hW=>?_) ?_
  · have x0:=QaX hW.1 0 rfl
    have x1:=Qah hW.1 1 rfl;have y0:=Qah hW.2 0 rfl;have y1:=Qah hW.2 1 rfl;clear hW;go_simp
  refine tkL 5 (.pointer (some ⟨w.heap.size,1,none⟩)) R0 (fun W hW=>?_) ?_
  · have x0:=QaX hW.1 0 rfl
    have x1:=Qah hW.1 1 rfl;have y0:=Qah hW.2 0 rfl;have y1:=Qah hW.2 1 rfl;clear hW;go_simp
  refine tkL 6 (.string s) R0 (fun W hW=>?_) ?_
  · have x0:=QaX hW.1 0 rfl
    have x1:=Qah hW.1 1 rfl;have y0:=Qah hW.2 0 rfl;have y1:=Qah hW.2 1 rfl;clear hW;go_simp
  simp only [sX];refine tkL 7 (.pointer (some ⟨w.heap.size+1,1,none⟩)) R0 (fun W hW=>?_) ?_
  · have x0:=QaX hW.1 0 rfl
    have x1:=Qah hW.1 1 rfl;have y0:=Qah hW.2 0 rfl;have y1:=Qah hW.2 1 rfl;clear hW;go_simp
  refine tkL 8 (.string s') R0 (fun W hW=>?_) ?_
  · have x0:=QaX hW.1 0 rfl
    have x1:=Qah hW.1 1 rfl;have y0:=Qah hW.2 0 rfl;have y1:=Qah hW.2 1 rfl;clear hW;go_simp
  simp only [sX];refine onE 4 fun K hK=>?_;go_simp;refine (QfK n n' _).mono ?_;rintro e wz ⟨rfl,aa⟩;obtain rfl:=aa.symm;dsimp only;refine gK hK R0 ?_
  try simp only [sX]
  refine onE 9 fun K hK=>?_;go_simp;refine (Qkf s s' _).mono ?_;rintro e wz ⟨rfl,aa⟩;obtain rfl:=aa.symm;dsimp only;refine gK hK R0 ?_
  try simp only [sX]
  have k2:=ZZk W0 (.cells #[.int .i64 (Qjo n n'),.int .i64 (Ql5 s s')] 3);rw [ac] at k2;have k3:(W0.alloc (.cells #[.int .i64 (Qjo n n'),.int .i64 (Ql5 s s')] 3)).drew.heap[w.heap.size+1+1]?=some (.cells #[.int .i64 (Qjo n n'),.int .i64 (Ql5 s s')] 3 (0,0)):=k2;have HC:=Qaa (And.intro (QaX k3 0 rfl) (QaX k3 1 rfl));clear k2 k3;have ab:Bw W0 (W0.alloc (.cells #[.int .i64 (Qjo n n'),.int .i64 (Ql5 s s')] 3)).drew:=((ZZb _ _).alloc (ZZa _) _).drew;have R1:=And.intro ((ab.block w.heap.size (by omega)).trans HR.1) ((ab.block (w.heap.size+1) (by omega)).trans HR.2);have ah:=Qaa (Qac af ab);clear ab;refine onE 10 fun K hK=>?_;go_simp;refine gK hK R1 ?_
  try simp only [sX]
  refine onE 11 fun K hK=>?_;go_simp;refine (Qok _ _ HC.1 HC.2).mono ?_;rintro e wz ⟨rfl,aa⟩;obtain rfl:=aa.symm;dsimp only;refine gK hK R1 ?_
  try simp only [sX]
  refine onE 12 fun K hK=>?_;go_simp;refine hK.out _ _ (fun h=>absurd rfl h) ?_
  try simp only [sX]
  refine dnE ?_ _;go_wp2;go_ret;exact ⟨rfl,ah,Nat.le_trans ad (Nat.le_succ _)⟩
theorem Qg6 (c d:Ce) :
    Calls prog 77 #[.agg (Qan c),.agg (Qan d)] w fun e w'=>e=.returned (.int .i64 (Qp0 c.n c.s d.n d.s))/\Grw w w':=by
  have al:Hid (Bw w ((w.alloc (.cells (Qan c) 75)).alloc (.cells (Qan d) 75))):=((Below.refl _ _).alloc (Nat.le_refl _) _).alloc (by simp) _;have HC:=Qaa (Qs6 w 75 c d);go_enter func77,ntmps77;go_wp2_with fail;have ae:Hid (w.drawn<=((w.alloc (.cells (Qan c) 75)).alloc (.cells (Qan d) 75)).drawn):=ZZa w.drawn;generalize (w.alloc _).alloc _=W0 at HC al ae ⊢;have aa:(fun W=>Bw W0 W) W0.drew:=(ZZb _ _).drew;refine Qal (fun W=>Bw W0 W) 5 (by kernel_rfl) ?_;refine tkL 0 (.agg (Qan c)) aa (fun W hW=>?_) ?_
  · obtain ⟨⟨x0,x1,x2,x3,x4,x5,x6,x7,x8,x9,az,av,an,ap,aA⟩,⟨y0,y1,y2,y3,y4,y5,y6,y7,y8,y9,ax,am,au,ay,ar⟩⟩:=HC.out W hW
    clear hW;go_simp
  refine tkL 2 (.agg (Qan d)) aa (fun W hW=>?_) ?_
  · obtain ⟨⟨x0,x1,x2,x3,x4,x5,x6,x7,x8,x9,az,av,an,ap,aA⟩,⟨y0,y1,y2,y3,y4,y5,y6,y7,y8,y9,ax,am,au,ay,ar⟩⟩:=HC.out W hW
    clear hW;go_simp
  simp only [sX];refine onE 1 fun K hK=>?_;go_simp;refine (Qmw c _).mono ?_;rintro e w1 ⟨rfl,ac,ab⟩;have aj:Hid (Bw W0 w1):=(aa:Bw W0 W0.drew).trans (ac.mono (ZZa _));have aq:Hid (w.drawn<=w1.drawn):=Nat.le_trans ae (Nat.le_trans (Nat.le_succ _) ab);clear ac ab;dsimp only;refine gK hK aj.out ?_
  try simp only [sX]
  refine onE 3 fun K hK=>?_;go_simp;refine (Qmw d _).mono ?_;rintro e w2 ⟨rfl,ag,ad⟩;have af:Hid (Bw W0 w2):=Qac aj ag;have ao:Hid (w.drawn<=w2.drawn):=Nat.le_trans aq ad;clear ag ad;dsimp only;refine gK hK af.out ?_
  try simp only [sX]
  refine onE 4 fun K hK=>?_;go_simp;refine (Qht c.n c.s d.n d.s _).mono ?_;rintro e w3 ⟨rfl,ak,ah⟩;have ai:Hid (Bw W0 w3):=Qac af ak;have aw:Hid (w.drawn<=w3.drawn):=Nat.le_trans ao ah;clear ak ah;dsimp only;refine gK hK ai.out ?_
  try simp only [sX]
  refine onE 5 fun K hK=>?_;go_simp;refine hK.out _ _ (fun h=>absurd rfl h) ?_
  try simp only [sX]
  refine dnE ?_ _;go_wp2;go_ret;exact ⟨rfl,Qac al ai,aw⟩
end
variable {B c cp g i n:Nat}
variable {v:Value}
section
theorem QeJ {s:Nat} {e:TypeId} {xs:List Value} (h:w.ownsRow B e s v n xs):∃ ao c,v=.slice ao n c:=by
  rcases h.2 with ⟨rfl,rfl⟩ | ⟨g,c,_,rfl,_⟩
  · exact ⟨none,0,rfl⟩
  · exact ⟨_,c,rfl⟩
end
variable {ao:Option Addr}
section
theorem Qj5 {kd:IntKind} {b off:Nat} {L:List Int} (h:QaG kd w (some ⟨b,off,none⟩) L):∀ j u,(L.map (Value.int kd))[j]?=some u->w.cell? ⟨b,off+j,none⟩=some u:=fun j u hu=>by
  rw [List.getElem?_map] at hu;obtain ⟨x,hx,rfl⟩:=Option.map_eq_some_iff.1 hu;obtain ⟨b',off',e,hc⟩:=h (by have:=(ZZd.1 hx).1;omega)
  cases e
  exact hc j x hx
theorem sizeU (w:World):(Go.sizeOf 62).run prog w=.ok 1 w:=Tryz.sizeOf62 w
theorem sizeI (w:World):(Go.sizeOf 2).run prog w=.ok 1 w:=Tryz.sizeOf2 w
theorem Qr8 {L:List Int} (hn:L.length=n) (hl:n<=1048576) (hf:QpF ao) (hA:QaG .u64 w ao L) :
    Calls prog 174 #[.slice ao n c] w fun e w'=>∃ v,e=.returned v/\w'.ownsRow w.heap.size 62 1 v L.length (L.map (Value.int .u64))/\Bw w w':=by
  obtain ⟨i0,hi,ac,aa,ab⟩:=info_parts Qed;rcases hf with rfl | ⟨b,ad,rfl⟩
  · obtain rfl:=QiY hA
    refine (Tryz.slices_Clone_nil_f174 _ _ _).mono ?_;rintro e w' ⟨rfl,rfl⟩;exact ⟨_,rfl,World.ownsRow_nil _ _ _ _,ZZb _ _⟩
  · refine (Tryz.slices_Clone_f174 i0 _ 1 8 hi ac aa ab rfl (by omega) sizeU b ad n c (L.map (Value.int .u64)) w (by simp [hn]) (by unfold maxLen;omega) (by omega) (Qj5 hA) (by intro v hv;simp at hv;obtain ⟨x,_,rfl⟩:=hv;rfl)).mono ?_
    rintro e w' ⟨v,rfl,ho,_,hb⟩;exact ⟨v,rfl,by rw [hn];exact ho,hb⟩
theorem QrB {L:List Int} (hn:L.length=n) (hl:n<=1048576) (hf:QpF ao) (hA:QaG .i64 w ao L) :
    Calls prog 175 #[.slice ao n c] w fun e w'=>∃ v,e=.returned v/\w'.ownsRow w.heap.size 2 1 v L.length (L.map (Value.int .i64))/\Bw w w':=by
  obtain ⟨i0,hi,ac,aa,ab⟩:=info_parts Qfo;rcases hf with rfl | ⟨b,ad,rfl⟩
  · obtain rfl:=QiY hA
    refine (Tryz.slices_Clone_nil_f175 _ _ _).mono ?_;rintro e w' ⟨rfl,rfl⟩;exact ⟨_,rfl,World.ownsRow_nil _ _ _ _,ZZb _ _⟩
  · refine (Tryz.slices_Clone_f175 i0 _ 1 8 hi ac aa ab rfl (by omega) sizeI b ad n c (L.map (Value.int .i64)) w (by simp [hn]) (by unfold maxLen;omega) (by omega) (Qj5 hA) (by intro v hv;simp at hv;obtain ⟨x,_,rfl⟩:=hv;rfl)).mono ?_
    rintro e w' ⟨v,rfl,ho,_,hb⟩;exact ⟨v,rfl,by rw [hn];exact ho,hb⟩
theorem Qpk {ea ra:Option Addr} {m d:Nat} {E R:List Int} (h1:E.length=n) (h2:R.length=m) (l1:n<=1048576) (l2:m<=1048576) (f1:QpF ea) (f2:QpF ra) (hE:QaG .u64 w ea E) (hR:QaG .i64 w ra R) :
    Calls prog 138 #[.agg #[.slice ea n c,.slice ra m d]] w fun e w'=>∃ v,e=.returned v/\QtD w' w.heap.size v E R/\Bw w w':=by
  have HE:=Qaa hE;have HR:=Qaa hR;have F1:=Qaa f1;have F2:=Qaa f2;have H1:=Qaa h1;have H2:=Qaa h2;have an:Hid (∀ o1 o2,Bw w ((w.alloc o1).alloc o2)):=fun o1 o2=>((Below.refl _ _).alloc (Nat.le_refl _) _).alloc (by simp) _;clear hE hR f1 f2 h1 h2;go_enter func138,ntmps138;go_wp2_with fail;generalize hW0:(w.alloc _).alloc _=W0;have T0:Bw w W0:=by rw [<- hW0];exact an.out _ _
  have KR:=Qi9 w 71 71 (.slice ea n c) (.slice ra m d) (.slice none 0 0) (.slice none 0 0) W0 (by rw [hW0];exact Below.refl _ _);have am:W0.heap.size=w.heap.size+2:=by rw [<- hW0];simp
  clear hW0;have ad:=Qaa T0;have hC:∀ W,Bw W0 W->Qcw W w.heap.size (.slice ea n c) (.slice ra m d)/\W.heap[w.heap.size+1]?=some (.cells #[.slice none 0 0,.slice none 0 0] 71 (0,0)):=fun W hW=>⟨Qgx KR.1 hW,by rw [hW.block _ (by omega)];exact KR.2⟩;have HC:=Qaa hC;clear T0 hC KR;have aa:(fun W=>Bw W0 W) W0.drew:=(ZZb _ _).drew;refine Qal (fun W=>Bw W0 W) 7 (by kernel_rfl) ?_;refine tkL 0 (.pointer (some ⟨w.heap.size,0,none⟩)) aa (fun W hW=>?_) ?_
  · obtain ⟨⟨x0,x1⟩,_⟩:=HC.out W hW
    go_simp
  refine tkL 1 (.slice ea n c) aa (fun W hW=>?_) ?_
  · obtain ⟨⟨x0,x1⟩,_⟩:=HC.out W hW
    go_simp
  refine tkL 3 (.pointer (some ⟨w.heap.size,1,none⟩)) aa (fun W hW=>?_) ?_
  · obtain ⟨⟨x0,x1⟩,_⟩:=HC.out W hW
    go_simp
  simp only [sX];refine tkL 4 (.slice ra m d) aa (fun W hW=>?_) ?_
  · obtain ⟨⟨x0,x1⟩,_⟩:=HC.out W hW
    go_simp
  simp only [sX];refine onE 2 fun K hK=>?_;go_simp;refine (Qr8 H1 l1 F1 (Qak HE (ad.trans ((ZZb _ _).drew.mono ad.size)))).mono ?_;rintro e w1 ⟨v1,rfl,af,aj⟩;dsimp only;have ac:=Qaa ((aa:Bw W0 W0.drew).trans aj);have ao:=Qaa (Qby (B':=W0.heap.size) af (by show W0.heap.size<=W0.heap.size;omega));obtain ⟨ak,c1,rfl⟩:=QeJ af;clear af aj;refine gK hK ac.out ?_
  try simp only [sX]
  refine onE 5 fun K hK=>?_;go_simp;refine (QrB H2 l2 F2 (Qak HR (Qac ad ac))).mono ?_;rintro e w2 ⟨v2,rfl,ae,ag⟩;dsimp only;have ab:=Qaa (Qac ac ag);have al:=Qaa (Qby (B':=W0.heap.size) ae ac.size);have ah:=Qaa (QaY ao ag);obtain ⟨ai,c2,rfl⟩:=QeJ ae;clear ae ag;refine gK hK ab.out ?_
  try simp only [sX]
  refine tkS 6 (.agg #[.slice ak E.length c1,.slice ai R.length c2]) ab ?_;simp only [sX];have R2:=(HC.out _ ab).2;have q0:w2.cell? ⟨w.heap.size+1,0,none⟩=some (.slice none 0 0):=by rw [cell_of_row _ _ 0 _ _ (0,0) R2];rfl
  have q1:w2.cell? ⟨w.heap.size+1,1,none⟩=some (.slice none 0 0):=by rw [cell_of_row _ _ 1 _ _ (0,0) R2];rfl
  have f0:=fzR 0 R2;have f1:=fzR 1 R2;refine onE 7 fun K hK=>?_;go_simp;refine hK.out _ _ (fun h=>absurd rfl h) ?_
  try simp only [sX]
  refine dnE ?_ _;go_wp2;refine bodyPost_ret (v:=.agg #[.slice ak E.length c1,.slice ai R.length c2]) (by simp [results,results138,go_sem,q0,q1]) rfl ⟨_,rfl,⟨_,_,rfl,?_,?_⟩,?_⟩
  · refine Qby (B:=W0.heap.size) ?_ (by omega)
    repeat (refine ownsRow_setCell_below ?_ (by simp;omega) _)
    exact ah.out
  · refine Qby (B:=W0.heap.size) ?_ (by omega)
    repeat (refine ownsRow_setCell_below ?_ (by simp;omega) _)
    exact al.out
  · repeat (refine Below.setCell ?_ (by simp <;> omega) _)
    exact Qac ad ab
end
section
theorem Qqw {L:List Bn} (c n:Nat) (hn:L.length=n) (hl:n<=1048576) (hA:QaS w ao L) :
    Calls prog 173 #[.slice ao n c] w fun e w'=>∃ v,e=.returned v/\OwnB w' w.heap.size v n L/\Bw w w':=by
  obtain ⟨i0,hi,aj,ah,ai⟩:=info_parts Qls
  cases ao with
  | none=>
    have h0:n=0:=by
      rcases Nat.eq_zero_or_pos n with h | h
      · exact h
      · obtain ⟨b,ad,e,_⟩:=hA (by omega);cases e
    subst h0;have hq:=fun W=>Lib.run_eql_slice_nil (P:=prog) W 65 181 none 0 c 0 0 underlying65;have HN:=Qaa hn;clear hA hn;go_enter func173,ntmps173;go_wp2;go_ret;exact ⟨_,rfl,⟨HN.symm,.inl ⟨rfl,rfl⟩⟩,ZZb _ _⟩
  | some A=>
    have af:∀ j z,(fl QcW L)[j]?=some z->w.cell? (A.add j)=some z:=fun j z hz=>by
      have hj:=(ZZd.1 hz).1;rw [Qdu Qd1] at hj;obtain ⟨b,ad,e,ac⟩:=hA (by omega)
      cases e
      obtain ⟨x,hx⟩:∃ x,L[j / 2]?=some x:=⟨L[j / 2]'(by omega),ZZe (by omega)⟩;have h1:=Qd2 Qd1 L (j / 2) x (j % 2) (by omega) hx;rw [show j / 2*2+j % 2=j by omega,hz] at h1;have hc:=ac (j / 2) x hx;rw [Addr.add_lit];have:j % 2=0∨j % 2=1:=by omega
      rcases this with e | e
      · rw [e] at h1;rw [show ad+j=ad+j / 2*2 by omega,hc.1];simpa [QcW] using h1.symm
      · rw [e] at h1;rw [show ad+j=ad+j / 2*2+1 by omega,hc.2];simpa [QcW] using h1.symm
    have ag:=Qaa af;have hq:=fun W=>Lib.run_eql_slice_nil (P:=prog) W 65 181 (some A) n c 0 0 underlying65;have HN:=Qaa hn;clear hA af hn;go_enter func173,ntmps173;go_wp2_with (at_builtin;refine wpList_append_own _ rfl (.tmp 5) (.tmp 6) 65 rfl w.heap.size 181 i0 (.agg #[.int .i64 0,.int .u64 0]) 2 16 underlying65 hi aj ah ai rfl (by decide) _ _ _ rfl (World.ownsRow_made _ #[] 0 (Nat.le_refl _) (Nat.zero_le _) rfl) A n c (fl QcW L) rfl (by rw [Qdu Qd1,HN.out]) (fun j z hz=>by have:=ag.out j z hz;exact QcJ this _) (QgZ _) (by unfold maxLen;omega) (by omega) (by simp) ?_;intro v1 w1 ab aa ae;simp only [Nat.zero_add,List.nil_append] at ab;have O1:=Qaa ab;have B1:=Qaa (((Below.refl _ _).alloc (Nat.le_refl _) _).grown aa (by simp) (fun j hj=>by cases hj;exact Nat.le_refl _));clear ab aa ae);go_ret;exact ⟨_,rfl,OwnB.of O1 HN.symm,B1⟩
theorem Qki {z h l:Int} {pa na:Option Addr} {pn pc nn nc:Nat} {P N:List Bn} (hp:P.length=pn) (hn:N.length=nn) (lp:pn<=1048576) (ln:nn<=1048576) (hP:QaS w pa P) (hN:QaS w na N) :
    Calls prog 137 #[.agg #[.int .u64 z,.slice pa pn pc,.slice na nn nc,.int .i64 h,.int .u64 l]] w fun e w'=>∃ v,e=.returned v/\Qrq w' w.heap.size v z P N h l/\Bw w w':=by
  have HP:=Qaa hP;have HN:=Qaa hN;clear hP hN;go_enter func137,ntmps137;go_wp2_with fail;generalize hW0:(w.alloc _).alloc _=W0;have T0:Bw w W0:=by rw [<- hW0];exact ((Below.refl _ _).alloc (Nat.le_refl _) _).alloc (by simp) _
  have K0:Qew W0 w.heap.size z (.slice pa pn pc) (.slice na nn nc) h l:=by rw [<- hW0];exact Qep (Qtd w _ _ _ _ _ _) bA
  have R0:W0.heap[w.heap.size+1]?=some (.cells QbN 67 (0,0)):=by rw [<- hW0];simpa using heap_alloc_new (w.alloc (Obj.cells #[.int .u64 z,.slice pa pn pc,.slice na nn nc,.int .i64 h,.int .u64 l] 67)) (Obj.cells QbN 67)
  have ap:W0.heap.size=w.heap.size+2:=by rw [<- hW0];simp
  clear hW0;have af:=Qaa T0;have hC:∀ W,Bw W0 W->Qew W w.heap.size z (.slice pa pn pc) (.slice na nn nc) h l/\W.heap[w.heap.size+1]?=some (.cells QbN 67 (0,0)):=fun W hW=>⟨Qep K0 hW,by rw [hW.block _ (by omega)];exact R0⟩;have HC:=Qaa hC;clear T0 hC K0 R0;have aa:(fun W=>Bw W0 W) W0.drew:=(ZZb _ _).drew;refine Qal (fun W=>Bw W0 W) 11 (by kernel_rfl) ?_;refine tkL 0 (.pointer (some ⟨w.heap.size,0,none⟩)) aa (fun W hW=>?_) ?_
  · obtain ⟨⟨x0,x1,x2,x3,x4⟩,_⟩:=HC.out W hW
    go_simp
  refine tkL 1 (.int .u64 z) aa (fun W hW=>?_) ?_
  · obtain ⟨⟨x0,x1,x2,x3,x4⟩,_⟩:=HC.out W hW
    go_simp
  refine tkL 2 (.pointer (some ⟨w.heap.size,1,none⟩)) aa (fun W hW=>?_) ?_
  · obtain ⟨⟨x0,x1,x2,x3,x4⟩,_⟩:=HC.out W hW
    go_simp
  simp only [sX];refine tkL 3 (.slice pa pn pc) aa (fun W hW=>?_) ?_
  · obtain ⟨⟨x0,x1,x2,x3,x4⟩,_⟩:=HC.out W hW
    go_simp
  refine tkL 5 (.pointer (some ⟨w.heap.size,2,none⟩)) aa (fun W hW=>?_) ?_
  · obtain ⟨⟨x0,x1,x2,x3,x4⟩,_⟩:=HC.out W hW
    go_simp
  refine tkL 6 (.slice na nn nc) aa (fun W hW=>?_) ?_
  · obtain ⟨⟨x0,x1,x2,x3,x4⟩,_⟩:=HC.out W hW
    go_simp
  simp only [sX];refine tkL 8 (.pointer (some ⟨w.heap.size,3,none⟩)) aa (fun W hW=>?_) ?_
  · obtain ⟨⟨x0,x1,x2,x3,x4⟩,_⟩:=HC.out W hW
    go_simp
  refine tkL 9 (.agg #[.int .i64 h,.int .u64 l]) aa (fun W hW=>?_) ?_
  · obtain ⟨⟨x0,x1,x2,x3,x4⟩,_⟩:=HC.out W hW
    go_simp
  simp only [sX];refine onE 4 fun K hK=>?_;go_simp;refine (Qqw _ _ hp lp (Qaj HP (af.trans ((ZZb _ _).drew.mono af.size)))).mono ?_;rintro e w1 ⟨v1,rfl,ai,am⟩;dsimp only;have ad:=Qaa ((aa:Bw W0 W0.drew).trans am);have an:=Qaa (ai.le (B':=w.heap.size) (by show w.heap.size<=W0.heap.size;omega));obtain ⟨ag,c1,rfl⟩:=ai.any;clear ai am;refine gK hK ad.out ?_
  try simp only [sX]
  refine onE 7 fun K hK=>?_;go_simp;refine (Qqw _ _ hn ln (Qaj HN (Qac af ad))).mono ?_;rintro e w2 ⟨v2,rfl,ae,aj⟩;dsimp only;have ac:=Qaa (Qac ad aj);have ak:=Qaa (ae.le (B':=w.heap.size) (by have:=ad.size;omega));have ab:=Qaa (an.past aj);have ao:Hid (Qkh (.slice ag pn c1) v2):=(fun k e1 e2=>by have:=(an.lt k e1).2;have:=(ae.lt k e2).1;omega:Qkh (.slice ag pn c1) v2);obtain ⟨al,c2,rfl⟩:=ae.any;clear ae aj;refine gK hK ac.out ?_
  try simp only [sX]
  refine tkS 10 (.agg #[.int .u64 z,.slice ag pn c1,.slice al nn c2,.int .i64 h,.int .u64 l]) ac ?_;simp only [sX];have R2:=(HC.out _ ac).2;obtain ⟨q0,q1,q2,q3,q4⟩:=QeS R2;obtain ⟨f0,f1,f2,f3,f4⟩:=fA5 R2;refine onE 11 fun K hK=>?_;go_simp;refine hK.out _ _ (fun h=>absurd rfl h) ?_
  try simp only [sX]
  refine dnE ?_ _;go_wp2;refine bodyPost_ret (v:=.agg #[.int .u64 z,.slice ag pn c1,.slice al nn c2,.int .i64 h,.int .u64 l]) (by simp [results,results137,go_sem,q0,q1,q2,q3,q4]) rfl ⟨_,rfl,⟨_,_,pn,nn,rfl,?_,?_,ao⟩,?_⟩
  · have ah:=ab.ne R2 (by decide)
    repeat (refine OwnB.set ?_ ah _)
    exact ab.out
  · have ah:=ak.ne R2 (by decide)
    repeat (refine OwnB.set ?_ ah _)
    exact ak.out
  · repeat (refine Below.setCell ?_ (by simp <;> omega) _)
    exact Qac af ac
end
instance inhCe:Inhabited Ce:=⟨⟨0,⟨#[]⟩,Qgt,⟨none,0,none,0,none,0,none,0⟩⟩⟩
variable {d:Array Ce}
section
theorem Qoo:∀ {L M:List Ce},AscC L->AscC M->L.Perm M->L=M
  | [],M,_,_,p=>by
    have:=p.length_eq
    cases M with
    | nil=>rfl
    | cons _ _=>simp at this
  | c :: L,M,h,k,p=>by
    cases M with
    | nil=>have:=p.length_eq;simp at this
    | cons d M=>
      obtain ⟨h1,h2⟩:=List.pairwise_cons.1 h;obtain ⟨k1,k2⟩:=List.pairwise_cons.1 k
      have e:c=d:=by
        rcases List.mem_cons.1 (p.mem_iff.1 (List.mem_cons_self (a:=c) (l:=L))) with e | e
        · exact e
        · rcases List.mem_cons.1 (p.mem_iff.2 (List.mem_cons_self (a:=d) (l:=M))) with e2 | e2
          · exact e2.symm
          · have q1:=k1 c e
            have q2:=h1 d e2;rw [Qfr q1] at q2;cases q2
      subst e;rw [Qoo h2 k2 ((List.perm_cons _).1 p)]
def cfC (c d:Ce):Int:=Qp0 c.n c.s d.n d.s
theorem Qts (c d:Ce):decide (cfC c d<0)=cAh c d:=by
  have h:=Qpz c d;unfold cfC
  cases q:cAh c d
  · rw [q] at h
    have:0<=Qp0 c.n c.s d.n d.s:=by simpa using h
    simp;omega
  · rw [q] at h
    have:¬ 0<=Qp0 c.n c.s d.n d.s:=by simpa using h
    simp;omega
theorem Qja (h:Sort.SortedIn (fun x y=>decide (cfC x y<0)) 0 d.size d) (hp:d.toList.Pairwise (fun c e=>¬ Qb1 c e)):AscC d.toList:=by
  refine List.pairwise_iff_getElem.2 (fun i j hi hj hij=>?_);have h1:cAh d[j]! d[i]! = false:=by rw [<- Qts];exact h i j (Nat.zero_le _) hij (by simpa using hj)
  have ab:i<d.size:=by simpa using hi
  have ac:j<d.size:=by simpa using hj
  rw [getElem!_pos d i ab,getElem!_pos d j ac] at h1;have aa:=(List.pairwise_iff_getElem.1 hp) i j hi hj hij;simp only [Array.getElem_toList] at aa ⊢
  cases q:cAh d[i] d[j]
  · exact absurd (Qla q h1) aa
  · rfl
end
variable {L M:List Ce}
section
theorem QlW {xs:List Ce} (h:OwnC w B (.slice (some ⟨g,0,none⟩) xs.length cp) xs):HoldsK ceL 15 w g 0 xs.toArray:=by
  intro j hj;have aa:j<xs.length*15:=by simpa using hj
  rw [Nat.zero_add];refine ⟨?_,World.ownsRow.frozenAt h j⟩;rw [World.ownsRow.cellAt h j aa,get_flatK _ _ _ _ (by simpa using aa)];have hi:j / 15<xs.length:=by omega
  obtain ⟨x,hx⟩:∃ x,xs[j / 15]?=some x:=⟨_,ZZe hi⟩;have h1:=Qkd xs (j / 15) x (j % 15) (by omega) hx;rw [show j / 15*15+j % 15=j by omega] at h1
  have h2:xs.toArray[j / 15]! = x:=by
    have:=(ZZd.1 hx).2;simp [hi,this]
  rw [h1,h2];have hm:j % 15<(ceL x).length:=by rw [QcO];omega
  simp [hm]
theorem Qk9 (w:World) (g o n:Nat) (d:Array Ce) (os:Array Obj):w.grownBy (sortWorldK ceL 15 w g o n d os) (some g):=by
  refine ⟨rfl,rfl,rfl,size_sortWorldK_c _ _ _ _ _ _ _ _,fun j hj hne=>?_⟩;unfold sortWorldK;rw [heap_grow_old _ _ (by rw [size_putRowK];exact hj)];have:g≠j:=fun e=>hne (by rw [e]);simp [putRowK,putRow,mapBlock,Sort.ahead,Array.getElem?_modify,this]
theorem QjJ {α:Type} [Inhabited α] (enc:α->Value) (off:Nat) (d:Array α) (c:Array Value):(putCells enc off d c).size=c.size:=by
  unfold putCells;simp
theorem QrR {os:Array Obj} (h:OwnC w B (.slice (some ⟨g,0,none⟩) L.length cp) L) (hd:d.size=L.length) (hs:g<w.heap.size) :
    OwnC (sortWorldK ceL 15 w g 0 n d os) B (.slice (some ⟨g,0,none⟩) d.toList.length cp) d.toList:=by
  have hH:=QlW h;have ac:HoldsK ceL 15 (sortWorldK ceL 15 w g 0 n d os) g 0 d:=holdsK_sortWorldK_c _ _ _ _ _ _ d _ _ hH hs (by simp [hd]);rcases h.2 with ⟨e,q⟩ | ⟨g',af,ab,e,q1,q2,q3,q4,q5,q6⟩
  · cases e
  · injection e with e1 e2 e3
    injection e1 with e1;injection e1 with e1;subst e1;subst e3
    have hb:(sortWorldK ceL 15 w g 0 n d os).heap[g]?=some (.cells (putCells id 0 (flatK ceL 15 d) ab) 75 (0,0)):=by
      unfold sortWorldK;rw [heap_grow_old _ _ (by rw [size_putRowK];exact hs)];simp [putRowK,putRow,mapBlock,Sort.ahead,Array.getElem?_modify,q2,onCells]
    have hl:d.toList.length=L.length:=by simpa using hd
    refine ⟨by rw [QbE],.inr ⟨g,cp,_,rfl,q1,hb,by omega,q4,by rw [QjJ,q5],?_⟩⟩;have ad:d.size*15<=(putCells id 0 (flatK ceL 15 d) ab).size:=by rw [QjJ,q5,hd];exact Nat.mul_le_mul_right _ q3
    apply List.ext_getElem?;intro j;by_cases hj:j<d.toList.length*15
    · rw [List.getElem?_take_of_lt hj]
      have aa:j<d.size*15:=by simpa using hj
      have k:=(ac j (by simpa using aa)).1;rw [Nat.zero_add,cell_of_row _ _ _ _ _ (0,0) hb,get_flatK _ _ _ _ aa] at k;have hi:j / 15<d.toList.length:=by omega
      obtain ⟨x,hx⟩:∃ x,d.toList[j / 15]?=some x:=⟨_,ZZe hi⟩;have h1:=Qkd d.toList (j / 15) x (j % 15) (by omega) hx;rw [show j / 15*15+j % 15=j by omega] at h1;have ae:j / 15<d.size:=by simpa using hi
      have h2:d[j / 15]! = x:=by
        have:=(ZZd.1 hx).2;rw [getElem!_pos d _ ae]
        simpa using this
      rw [h2] at k;rw [Array.getElem?_toList,k,h1];have hm:j % 15<(ceL x).length:=by rw [QcO];omega
      simp [hm]
    · rw [List.getElem?_eq_none (by simp;omega),List.getElem?_eq_none (by rw [QbE];omega)]
end
section
theorem Qqo (fv:Value) (w:World):Calls prog 145 #[.slice none 0 0,.int .i64 0,.int .i64 0,fv] w fun e w'=>e=.returned (.tuple #[])/\w'=w:=by
  go_enter func145,ntmps145;go_wp2;refine wp_loop_rounds 1 ?_;rw [rounds_succ];go_wp2
  go_end0
  exact ⟨rfl,rfl⟩
theorem Qow (lim:Int) (fv:Value) (w:World):Calls prog 106 #[.slice none 0 0,.int .i64 0,.int .i64 0,.int .i64 lim,fv] w fun e w'=>e=.returned (.tuple #[])/\w'=w:=by
  go_enter func106,ntmps106;go_wp2;refine wp_loop_rounds 1 ?_;rw [rounds_succ];go_wp2_with (go_at_call 145;refine (Qqo _ _).mono ?_;rintro e w' ⟨rfl,hw⟩;obtain rfl:=hw.symm)
  (try simp only [Exit.inBlock,Exit.then])
  refine bodyPost_ret (results_none rfl _ _ _) rfl ?_;exact ⟨rfl,rfl⟩
theorem QnC (w:World):Calls prog 107 #[.int .u64 0] w fun e w'=>(∃ l,e=.returned (.int .i64 l))/\w'=w:=by
  go_enter func107,ntmps107;go_wp2;go_ret;exact ⟨⟨_,rfl⟩,rfl⟩
theorem Qnr (fv:Value) (w:World):Calls prog 76 #[.slice none 0 0,fv] w fun e w'=>e=.returned (.tuple #[])/\w'=w:=by
  go_enter func76,ntmps76
  go_wp2_with (first
    | (go_at_call 107;refine (QnC _).mono ?_;rintro e w' ⟨⟨l,rfl⟩,hw⟩;obtain rfl:=hw.symm)
    | (go_at_call 106;refine (Qow _ _ _).mono ?_;rintro e w' ⟨rfl,hw⟩;obtain rfl:=hw.symm))
  go_end0
  exact ⟨rfl,rfl⟩
theorem QnE {a b c:Ce} (h:cAh a b=false) (k:cAh b c=false):cAh a c=false:=by
  unfold cAh at *;simp only [Bool.or_eq_false_iff,Bool.and_eq_false_iff,decide_eq_false_iff_not,beq_eq_false_iff_ne] at *;refine ⟨by omega,?_⟩;by_cases e:a.n=c.n
  · have e1:a.n=b.n:=by omega
    have e2:b.n=c.n:=by omega
    exact .inr (QgV (k.2.resolve_left (fun q=>q e2)) (h.2.resolve_left (fun q=>q e1)))
  · exact .inl e
theorem swoCe:SWO (ltOf cfC):=by
  have e:ltOf cfC=cAh:=by funext x y;exact Qts x y
  rw [e];exact ⟨QgY,fun a b c=>Qdt,fun a b c=>QnE⟩
theorem Qn2 (hL:AscC L) (hp:M.Perm L) (p:PermIn 0 M.length M.toArray d) (hs:SortedIn (ltOf cfC) 0 M.length d):d.toList=L/\d.size=M.length:=by
  obtain ⟨hz,_,ab⟩:=p;have aa:d.size=M.length:=by simpa using hz
  have e1:d.extract 0 M.length=d:=by rw [<- aa];simp
  have e2:M.toArray.extract 0 M.length=M.toArray:=by simp
  rw [e1,e2] at ab;have pL:d.toList.Perm L:=ab.trans (by simpa using hp);rw [<- aa] at hs;have ap:d.toList.Pairwise (fun c e=>¬ Qb1 c e):=(pL.symm.pairwise_iff (fun {a b} (q:¬ Qb1 a b)=>fun e=>q ⟨e.1.symm,e.2.symm⟩)).1 hL.ap;exact ⟨Qoo (Qja hs ap) hL pL,aa⟩
theorem eg_cmp:∀ args w,(callFunc 77 args).run prog w=.ok (.enter 77 args) w:=enters_of func77 (by kernel_rfl) rfl
theorem QkY (hL:AscC L) (hp:M.Perm L) (lM:M.length<=1048576) (h:OwnC w B v M) :
    Calls prog 76 #[v,.func (.func 77) #[] #[]] w fun e w'=>e=.returned (.tuple #[])/\OwnC w' B v L/\Below B w w'/\w.grownBy w' v.ownBlock:=by
  rcases h.2 with ⟨rfl,q⟩ | ⟨g,ae,ag,rfl,q1,q2,q3⟩
  · have e0:M=[]:=List.eq_nil_of_length_eq_zero q
    subst e0
    obtain rfl:L=[]:=by
      have:=hp.length_eq;exact List.eq_nil_of_length_eq_zero (by simpa using this.symm)
    refine (Qnr _ w).mono ?_;rintro e w' ⟨rfl,rfl⟩;exact ⟨rfl,h,ZZb _ _,World.grownBy.refl _ _⟩
  · have ab:g<w.heap.size:=(ZZc.1 q2).1
    have hH:=QlW h;have aa:=AnyQ.slices_SortFunc (α:=Ce) Tryz.laysSort 15 Tryz.isAgg75 Tryz.sizeOf75 ceL QcO QcK cfC swoCe 77 #[] g 0 ae M.toArray w eg_cmp (fun _ _ _ _ x y=>(Qg6 x y).mono (fun e w' q=>⟨q.1,q.2.to⟩)) hH ab (by simp;omega);have ad:M.toArray.size=M.length:=by simp
    rw [ad] at aa
    change Calls prog 76 _ _ _ at aa
    refine aa.mono ?_;rintro e w' ⟨rfl,d',n,os,ac,af,rfl⟩;obtain ⟨e1,e2⟩:=Qn2 hL hp ac af;have ho:=QrR (n:=n) (os:=os) h e2 ab;rw [e1] at ho;have hl:L.length=M.length:=by rw [<- e1,Array.length_toList,e2]
    rw [hl] at ho;have hg:=Qk9 w g 0 n d' os;exact ⟨rfl,ho,(ZZb B w).grown hg (Nat.le_trans q1 (Nat.le_of_lt ab)) (fun j hj=>by cases hj;exact q1),hg⟩
end
section
theorem Qp8 {g:Ag} {p:Pl} (sm:AgSm g) (pl:PlG g p) (hA:AgAt w g p) :
    Calls prog 96 #[.agg (QaC g p)] w fun e w'=>AgRes w (fun o=>o=g) e w':=by
  have SM:=Qaa sm;have PL:=Qaa pl;have HA:=Qaa hA;clear sm pl hA;obtain ⟨ac,HC⟩:=QsQ w g p;have av:=Qn8 w (.cells (QaC g p) 73) (.cells z13 73);go_enter func96,ntmps96;go_wp2_with fail;generalize (w.alloc _).alloc _=W0 at ac HC av ⊢;have ad:Hid (Bw W0 W0.drew):=(ZZb _ _).drew;have af:(fun W=>W.cell? ⟨w.heap.size,11,none⟩=some (.slice p.ea g.E.length p.ec)/\W.cell? ⟨w.heap.size,12,none⟩=some (.slice p.ra g.R.length p.rc)) W0.drew:=⟨Qez (HC.out _ ad).1 11 rfl,Qez (HC.out _ ad).1 12 rfl⟩;refine Qal (fun W=>W.cell? ⟨w.heap.size,11,none⟩=some (.slice p.ea g.E.length p.ec)/\W.cell? ⟨w.heap.size,12,none⟩=some (.slice p.ra g.R.length p.rc)) 9 (by kernel_rfl) ?_;refine tkS 0 (.pointer (some ⟨w.heap.size,6,none⟩)) af ?_;refine tkS 3 (.pointer (some ⟨w.heap.size,11,none⟩)) af ?_;refine tkL 4 (.agg #[.slice p.ea g.E.length p.ec,.slice p.ra g.R.length p.rc]) af (fun W hW=>?_) ?_
  · have aC:=hW.1
    have az:=hW.2;clear hW;go_simp
  simp only [sX];have ar:=Qaa (HC.out _ ad).1;obtain ⟨q0,q1,q2,q3,q4,q5,q6,q7,q8,q9,ai,ak,aj⟩:=Qdh ar;refine onE 1 fun K hK=>?_;go_simp;refine gK hK af ?_
  try simp only [sX]
  clear q0 q1 q2 q3 q4 q5 q6 q7 q8 q9 ai ak aj;refine onE 2 fun K hK=>?_;go_simp;refine (Qki rfl rfl SM.P SM.N (Qaj HA.P (Qac ac ad)) (Qaj HA.N (Qac ac ad))).mono ?_;rintro e w1 ⟨v1,rfl,⟨vp,vn,pn,nn,rfl,o1,o2,am⟩,an⟩;obtain ⟨pa,pc,rfl⟩:=o1.any;obtain ⟨na,nc,rfl⟩:=o2.any;obtain rfl:=o1.1;obtain rfl:=o2.1;have aa:Hid (Bw W0 w1):=Qac ad an;have ab:=Qaa (And.intro (o1.le (show W0.heap.size<=W0.drew.heap.size from ZZa _)) (And.intro (o2.le (show W0.heap.size<=W0.drew.heap.size from ZZa _)) am));have ao:(fun W=>W.cell? ⟨w.heap.size,11,none⟩=some (.slice p.ea g.E.length p.ec)/\W.cell? ⟨w.heap.size,12,none⟩=some (.slice p.ra g.R.length p.rc)) w1:=⟨Qez (HC.out _ aa).1 11 rfl,Qez (HC.out _ aa).1 12 rfl⟩;clear o1 o2 am an;dsimp only;refine gK hK ao ?_
  try simp only [sX]
  refine tkS 6 (.pointer (some ⟨w.heap.size,6,none⟩)) ao ?_;simp only [sX];refine onE 5 fun K hK=>?_;go_simp;refine (Qpk rfl rfl SM.E SM.R PL.fE PL.fR (Qak HA.E (Qac ac aa)) (Qak HA.R (Qac ac aa))).mono ?_;rintro e w2 ⟨v2,rfl,⟨ve,vr,rfl,o3,o4⟩,ag⟩;obtain ⟨ea,ec,rfl⟩:=Qam o3;obtain ⟨ra,rc,rfl⟩:=Qam o4;have ae:Hid (Bw W0 w2):=Qac aa ag;have al:=Qaa (And.intro (Qby o3 aa.size) (Qby o4 aa.size));have ab:=Qaa (And.intro (ab.1.past ag) (And.intro (ab.2.1.past ag) ab.2.2));have au:(fun W=>W.cell? ⟨w.heap.size,11,none⟩=some (.slice p.ea g.E.length p.ec)/\W.cell? ⟨w.heap.size,12,none⟩=some (.slice p.ra g.R.length p.rc)) w2:=⟨Qez (HC.out _ ae).1 11 rfl,Qez (HC.out _ ae).1 12 rfl⟩;clear o3 o4 ag;dsimp only;refine gK hK au ?_
  try simp only [sX]
  have ah:=Qaa (HC.out _ ae);obtain ⟨q0,q1,q2,q3,q4,q5,q6,q7,q8,q9,ai,ak,aj⟩:=Qdh ah.1;obtain ⟨f0,f1,f2,f3,f4,f5,f6,f7,f8,f9,aD,ax,aA⟩:=Qhj ah.1;obtain ⟨z0,z1,z2,z3,z4,z5,z6,z7,z8,z9,ap,aw,aq⟩:=Qdh ah.2;obtain ⟨k0,k1,k2,k3,k4,k5,k6,k7,k8,k9,ay,aB,aE⟩:=Qhj ah.2;refine onE 7 fun K hK=>?_;go_simp;refine hK.out _ _ (fun _=>(by constructor <;> go_simp)) ?_
  try simp only [sX]
  refine QbU (i:=8) (d:=10) (v:=.pointer (some ⟨w.heap.size,11,none⟩)) rfl rfl (by kernel_rfl) (by kernel_rfl) (by kernel_rfl) (by decide) (by kernel_rfl) (fun _ _ _ h=>h) (Or.inl ⟨by rfl,fun W hW=>?_⟩) (by constructor <;> go_simp) ?_
  · clear hW
    go_simp
  simp only [sX];refine onE 9 fun K hK=>?_;go_simp;refine hK.out _ _ (fun h=>absurd rfl h) ?_
  try simp only [sX]
  refine dnE ?_ _;go_wp2;refine bodyPost_ret (v:=.agg (QaC g ⟨pa,pc,na,nc,ea,ec,ra,rc⟩)) (by simp [results,results96,go_sem,q0,q1,q2,q3,q4,q5,q6,q7,q8,q9,ai,ak,aj,z0,z1,z2,z3,z4,z5,z6,z7,z8,z9,ap,aw,aq]) rfl (AgRes.mk (o:=g) (p:=⟨pa,pc,na,nc,ea,ec,ra,rc⟩) rfl ?_ ?_)
  · refine AgO.le (B:=W0.heap.size) ?_ (by omega)
    repeat (refine AgO.below ?_ (by omega) _)
    exact ⟨ab.1,ab.2.1,ab.2.2,⟨rfl,al.1⟩,⟨rfl,al.2⟩⟩
  · repeat (refine Below.setCell ?_ (by simp <;> omega) _)
    exact Qac ac ae
end
variable {c':Ce}
section
theorem QqC:∀ (L:List Ce) (i:Nat) (c c':Ce) (j:Nat) (u:Value),j<15->L[i]?=some c->ceL c'=(ceL c).set j u->(flC L).set (i*15+j) u=flC (L.set i c')
  | [],i,c,c',j,u,hj,h,e=>by simp at h
  | x :: xs,0,c,c',j,u,hj,h,e=>by
    obtain rfl:x=c:=by simpa using h
    rw [QcZ,List.set_append_left _ _ (by rw [QcO];omega),List.set_cons_zero,QcZ,e,Nat.zero_mul,Nat.zero_add]
  | x :: xs,i+1,c,c',j,u,hj,h,e=>by
    rw [QcZ,List.set_append_right _ _ (by rw [QcO];omega),QcO,List.set_cons_succ,QcZ,<- QqC xs i c c' j u hj (by simpa using h) e,show (i+1)*15+j - 15=i*15+j by omega]
theorem OwnC.put1 {j:Nat} {c:Ce} {u:Value} (h:OwnC w B (.slice (some ⟨g,0,none⟩) n cp) L) (hn:L.length=n) (hc:L[i]?=some c) (hj:j<15) (e:ceL c'=(ceL c).set j u):OwnC (w.setCell ⟨g,i*15+j,none⟩ u) B (.slice (some ⟨g,0,none⟩) n cp) (L.set i c'):=by
  subst hn;have q:=(World.ownsRow.stored h (i*15+j) u).1;rw [QqC L i c c' j u hj hc e] at q
  show World.ownsRow _ _ _ _ _ _ _
  rw [List.length_set];exact q
end
variable {o:Ag}
variable {q:Pl}
section
theorem OwnC.putAg {c:Ce} (h0:OwnC w B (.slice (some ⟨g,0,none⟩) n cp) L) (hn:L.length=n) (hc:L[i]?=some c) :
    OwnC (((((((((((((w.setCell ⟨g,i*15+2,none⟩ (.int .i64 o.k)).setCell ⟨g,i*15+3,none⟩ (.int .u64 o.s)).setCell ⟨g,i*15+4,none⟩ (.int .i64 o.h)).setCell ⟨g,i*15+5,none⟩ (.int .u64 o.l)).setCell ⟨g,i*15+6,none⟩ (.int .i64 o.a)).setCell ⟨g,i*15+7,none⟩ (.int .i64 o.t)).setCell ⟨g,i*15+8,none⟩ (.int .u64 o.z)).setCell ⟨g,i*15+9,none⟩ (.slice q.pa o.P.length q.pc)).setCell ⟨g,i*15+10,none⟩ (.slice q.na o.N.length q.nc)).setCell ⟨g,i*15+11,none⟩ (.int .i64 o.x)).setCell ⟨g,i*15+12,none⟩ (.int .u64 o.y)).setCell ⟨g,i*15+13,none⟩ (.slice q.ea o.E.length q.ec)).setCell ⟨g,i*15+14,none⟩ (.slice q.ra o.R.length q.rc)) B (.slice (some ⟨g,0,none⟩) n cp) (L.set i ⟨c.n,c.s,o,q⟩):=by
  have hi:i<L.length:=(ZZd.1 hc).1;have h1:=OwnC.put1 (j:=2) (c:=(⟨c.n,c.s,⟨c.g.k,c.g.s,c.g.h,c.g.l,c.g.a,c.g.t,c.g.z,c.g.P,c.g.N,c.g.x,c.g.y,c.g.E,c.g.R⟩,⟨c.p.pa,c.p.pc,c.p.na,c.p.nc,c.p.ea,c.p.ec,c.p.ra,c.p.rc⟩⟩:Ce)) (c':=(⟨c.n,c.s,⟨o.k,c.g.s,c.g.h,c.g.l,c.g.a,c.g.t,c.g.z,c.g.P,c.g.N,c.g.x,c.g.y,c.g.E,c.g.R⟩,⟨c.p.pa,c.p.pc,c.p.na,c.p.nc,c.p.ea,c.p.ec,c.p.ra,c.p.rc⟩⟩:Ce)) (u:=.int .i64 o.k) h0 (by simp [hn]) hc (by decide) rfl;have h2:=OwnC.put1 (j:=3) (c:=(⟨c.n,c.s,⟨o.k,c.g.s,c.g.h,c.g.l,c.g.a,c.g.t,c.g.z,c.g.P,c.g.N,c.g.x,c.g.y,c.g.E,c.g.R⟩,⟨c.p.pa,c.p.pc,c.p.na,c.p.nc,c.p.ea,c.p.ec,c.p.ra,c.p.rc⟩⟩:Ce)) (c':=(⟨c.n,c.s,⟨o.k,o.s,c.g.h,c.g.l,c.g.a,c.g.t,c.g.z,c.g.P,c.g.N,c.g.x,c.g.y,c.g.E,c.g.R⟩,⟨c.p.pa,c.p.pc,c.p.na,c.p.nc,c.p.ea,c.p.ec,c.p.ra,c.p.rc⟩⟩:Ce)) (u:=.int .u64 o.s) h1 (by simp [hn]) (List.getElem?_set_self hi) (by decide) rfl;rw [List.set_set] at h2;have h3:=OwnC.put1 (j:=4) (c:=(⟨c.n,c.s,⟨o.k,o.s,c.g.h,c.g.l,c.g.a,c.g.t,c.g.z,c.g.P,c.g.N,c.g.x,c.g.y,c.g.E,c.g.R⟩,⟨c.p.pa,c.p.pc,c.p.na,c.p.nc,c.p.ea,c.p.ec,c.p.ra,c.p.rc⟩⟩:Ce)) (c':=(⟨c.n,c.s,⟨o.k,o.s,o.h,c.g.l,c.g.a,c.g.t,c.g.z,c.g.P,c.g.N,c.g.x,c.g.y,c.g.E,c.g.R⟩,⟨c.p.pa,c.p.pc,c.p.na,c.p.nc,c.p.ea,c.p.ec,c.p.ra,c.p.rc⟩⟩:Ce)) (u:=.int .i64 o.h) h2 (by simp [hn]) (List.getElem?_set_self hi) (by decide) rfl;rw [List.set_set] at h3;have h4:=OwnC.put1 (j:=5) (c:=(⟨c.n,c.s,⟨o.k,o.s,o.h,c.g.l,c.g.a,c.g.t,c.g.z,c.g.P,c.g.N,c.g.x,c.g.y,c.g.E,c.g.R⟩,⟨c.p.pa,c.p.pc,c.p.na,c.p.nc,c.p.ea,c.p.ec,c.p.ra,c.p.rc⟩⟩:Ce)) (c':=(⟨c.n,c.s,⟨o.k,o.s,o.h,o.l,c.g.a,c.g.t,c.g.z,c.g.P,c.g.N,c.g.x,c.g.y,c.g.E,c.g.R⟩,⟨c.p.pa,c.p.pc,c.p.na,c.p.nc,c.p.ea,c.p.ec,c.p.ra,c.p.rc⟩⟩:Ce)) (u:=.int .u64 o.l) h3 (by simp [hn]) (List.getElem?_set_self hi) (by decide) rfl;rw [List.set_set] at h4;have h5:=OwnC.put1 (j:=6) (c:=(⟨c.n,c.s,⟨o.k,o.s,o.h,o.l,c.g.a,c.g.t,c.g.z,c.g.P,c.g.N,c.g.x,c.g.y,c.g.E,c.g.R⟩,⟨c.p.pa,c.p.pc,c.p.na,c.p.nc,c.p.ea,c.p.ec,c.p.ra,c.p.rc⟩⟩:Ce)) (c':=(⟨c.n,c.s,⟨o.k,o.s,o.h,o.l,o.a,c.g.t,c.g.z,c.g.P,c.g.N,c.g.x,c.g.y,c.g.E,c.g.R⟩,⟨c.p.pa,c.p.pc,c.p.na,c.p.nc,c.p.ea,c.p.ec,c.p.ra,c.p.rc⟩⟩:Ce)) (u:=.int .i64 o.a) h4 (by simp [hn]) (List.getElem?_set_self hi) (by decide) rfl;rw [List.set_set] at h5;have h6:=OwnC.put1 (j:=7) (c:=(⟨c.n,c.s,⟨o.k,o.s,o.h,o.l,o.a,c.g.t,c.g.z,c.g.P,c.g.N,c.g.x,c.g.y,c.g.E,c.g.R⟩,⟨c.p.pa,c.p.pc,c.p.na,c.p.nc,c.p.ea,c.p.ec,c.p.ra,c.p.rc⟩⟩:Ce)) (c':=(⟨c.n,c.s,⟨o.k,o.s,o.h,o.l,o.a,o.t,c.g.z,c.g.P,c.g.N,c.g.x,c.g.y,c.g.E,c.g.R⟩,⟨c.p.pa,c.p.pc,c.p.na,c.p.nc,c.p.ea,c.p.ec,c.p.ra,c.p.rc⟩⟩:Ce)) (u:=.int .i64 o.t) h5 (by simp [hn]) (List.getElem?_set_self hi) (by decide) rfl;rw [List.set_set] at h6;have h7:=OwnC.put1 (j:=8) (c:=(⟨c.n,c.s,⟨o.k,o.s,o.h,o.l,o.a,o.t,c.g.z,c.g.P,c.g.N,c.g.x,c.g.y,c.g.E,c.g.R⟩,⟨c.p.pa,c.p.pc,c.p.na,c.p.nc,c.p.ea,c.p.ec,c.p.ra,c.p.rc⟩⟩:Ce)) (c':=(⟨c.n,c.s,⟨o.k,o.s,o.h,o.l,o.a,o.t,o.z,c.g.P,c.g.N,c.g.x,c.g.y,c.g.E,c.g.R⟩,⟨c.p.pa,c.p.pc,c.p.na,c.p.nc,c.p.ea,c.p.ec,c.p.ra,c.p.rc⟩⟩:Ce)) (u:=.int .u64 o.z) h6 (by simp [hn]) (List.getElem?_set_self hi) (by decide) rfl;rw [List.set_set] at h7;have h8:=OwnC.put1 (j:=9) (c:=(⟨c.n,c.s,⟨o.k,o.s,o.h,o.l,o.a,o.t,o.z,c.g.P,c.g.N,c.g.x,c.g.y,c.g.E,c.g.R⟩,⟨c.p.pa,c.p.pc,c.p.na,c.p.nc,c.p.ea,c.p.ec,c.p.ra,c.p.rc⟩⟩:Ce)) (c':=(⟨c.n,c.s,⟨o.k,o.s,o.h,o.l,o.a,o.t,o.z,o.P,c.g.N,c.g.x,c.g.y,c.g.E,c.g.R⟩,⟨q.pa,q.pc,c.p.na,c.p.nc,c.p.ea,c.p.ec,c.p.ra,c.p.rc⟩⟩:Ce)) (u:=.slice q.pa o.P.length q.pc) h7 (by simp [hn]) (List.getElem?_set_self hi) (by decide) rfl;rw [List.set_set] at h8;have h9:=OwnC.put1 (j:=10) (c:=(⟨c.n,c.s,⟨o.k,o.s,o.h,o.l,o.a,o.t,o.z,o.P,c.g.N,c.g.x,c.g.y,c.g.E,c.g.R⟩,⟨q.pa,q.pc,c.p.na,c.p.nc,c.p.ea,c.p.ec,c.p.ra,c.p.rc⟩⟩:Ce)) (c':=(⟨c.n,c.s,⟨o.k,o.s,o.h,o.l,o.a,o.t,o.z,o.P,o.N,c.g.x,c.g.y,c.g.E,c.g.R⟩,⟨q.pa,q.pc,q.na,q.nc,c.p.ea,c.p.ec,c.p.ra,c.p.rc⟩⟩:Ce)) (u:=.slice q.na o.N.length q.nc) h8 (by simp [hn]) (List.getElem?_set_self hi) (by decide) rfl;rw [List.set_set] at h9;have ac:=OwnC.put1 (j:=11) (c:=(⟨c.n,c.s,⟨o.k,o.s,o.h,o.l,o.a,o.t,o.z,o.P,o.N,c.g.x,c.g.y,c.g.E,c.g.R⟩,⟨q.pa,q.pc,q.na,q.nc,c.p.ea,c.p.ec,c.p.ra,c.p.rc⟩⟩:Ce)) (c':=(⟨c.n,c.s,⟨o.k,o.s,o.h,o.l,o.a,o.t,o.z,o.P,o.N,o.x,c.g.y,c.g.E,c.g.R⟩,⟨q.pa,q.pc,q.na,q.nc,c.p.ea,c.p.ec,c.p.ra,c.p.rc⟩⟩:Ce)) (u:=.int .i64 o.x) h9 (by simp [hn]) (List.getElem?_set_self hi) (by decide) rfl;rw [List.set_set] at ac;have aa:=OwnC.put1 (j:=12) (c:=(⟨c.n,c.s,⟨o.k,o.s,o.h,o.l,o.a,o.t,o.z,o.P,o.N,o.x,c.g.y,c.g.E,c.g.R⟩,⟨q.pa,q.pc,q.na,q.nc,c.p.ea,c.p.ec,c.p.ra,c.p.rc⟩⟩:Ce)) (c':=(⟨c.n,c.s,⟨o.k,o.s,o.h,o.l,o.a,o.t,o.z,o.P,o.N,o.x,o.y,c.g.E,c.g.R⟩,⟨q.pa,q.pc,q.na,q.nc,c.p.ea,c.p.ec,c.p.ra,c.p.rc⟩⟩:Ce)) (u:=.int .u64 o.y) ac (by simp [hn]) (List.getElem?_set_self hi) (by decide) rfl;rw [List.set_set] at aa;have ab:=OwnC.put1 (j:=13) (c:=(⟨c.n,c.s,⟨o.k,o.s,o.h,o.l,o.a,o.t,o.z,o.P,o.N,o.x,o.y,c.g.E,c.g.R⟩,⟨q.pa,q.pc,q.na,q.nc,c.p.ea,c.p.ec,c.p.ra,c.p.rc⟩⟩:Ce)) (c':=(⟨c.n,c.s,⟨o.k,o.s,o.h,o.l,o.a,o.t,o.z,o.P,o.N,o.x,o.y,o.E,c.g.R⟩,⟨q.pa,q.pc,q.na,q.nc,q.ea,q.ec,c.p.ra,c.p.rc⟩⟩:Ce)) (u:=.slice q.ea o.E.length q.ec) aa (by simp [hn]) (List.getElem?_set_self hi) (by decide) rfl;rw [List.set_set] at ab;have ad:=OwnC.put1 (j:=14) (c:=(⟨c.n,c.s,⟨o.k,o.s,o.h,o.l,o.a,o.t,o.z,o.P,o.N,o.x,o.y,o.E,c.g.R⟩,⟨q.pa,q.pc,q.na,q.nc,q.ea,q.ec,c.p.ra,c.p.rc⟩⟩:Ce)) (c':=(⟨c.n,c.s,⟨o.k,o.s,o.h,o.l,o.a,o.t,o.z,o.P,o.N,o.x,o.y,o.E,o.R⟩,⟨q.pa,q.pc,q.na,q.nc,q.ea,q.ec,q.ra,q.rc⟩⟩:Ce)) (u:=.slice q.ra o.R.length q.rc) ab (by simp [hn]) (List.getElem?_set_self hi) (by decide) rfl;rw [List.set_set] at ad;exact ad
theorem Qlm:w.grownBy (((((((((((((w.setCell ⟨g,i*15+2,none⟩ (.int .i64 o.k)).setCell ⟨g,i*15+3,none⟩ (.int .u64 o.s)).setCell ⟨g,i*15+4,none⟩ (.int .i64 o.h)).setCell ⟨g,i*15+5,none⟩ (.int .u64 o.l)).setCell ⟨g,i*15+6,none⟩ (.int .i64 o.a)).setCell ⟨g,i*15+7,none⟩ (.int .i64 o.t)).setCell ⟨g,i*15+8,none⟩ (.int .u64 o.z)).setCell ⟨g,i*15+9,none⟩ (.slice q.pa o.P.length q.pc)).setCell ⟨g,i*15+10,none⟩ (.slice q.na o.N.length q.nc)).setCell ⟨g,i*15+11,none⟩ (.int .i64 o.x)).setCell ⟨g,i*15+12,none⟩ (.int .u64 o.y)).setCell ⟨g,i*15+13,none⟩ (.slice q.ea o.E.length q.ec)).setCell ⟨g,i*15+14,none⟩ (.slice q.ra o.R.length q.rc)) (some g):=
  ((((((((((((Qai _ _ _ _).trans (Qai _ _ _ _)).trans (Qai _ _ _ _)).trans (Qai _ _ _ _)).trans (Qai _ _ _ _)).trans (Qai _ _ _ _)).trans (Qai _ _ _ _)).trans (Qai _ _ _ _)).trans (Qai _ _ _ _)).trans (Qai _ _ _ _)).trans (Qai _ _ _ _)).trans (Qai _ _ _ _)).trans (Qai _ _ _ _)
theorem QoB {c:Ce} (hc:L[i]?=some c):L.set i c'=L.take i ++ c' :: L.drop (i+1)/\L=L.take i ++ c :: L.drop (i+1):=by
  obtain ⟨hi,e⟩:=ZZd.1 hc;constructor
  · rw [List.set_eq_take_append_cons_drop,if_pos hi]
  · rw [<- e,<- List.drop_eq_getElem_cons hi,List.take_append_drop]
end
end Go.Proofs.YtlejlgldgafljaaGreatDoor
