/-
  Copies of Aggs, cells that are sorted: a part of other texts, for the pipes.
-/
import Derived.Test.YtmjogablacnlgaaGreatDoorOXC
import Derived.Deep.Draws
import Derived.Laws.CopyOwn
import Derived.Sort.Grow
namespace Go.Proofs.YtmjogablacnlgaaGreatDoor
set_option linter.unusedVariables false
set_option linter.unusedSimpArgs false
section
open Go.ChangeShapes Go.WideShapes Go.ChangeAt Go.RowKit Go.PlainAid Go.Lib
set_option maxRecDepth 10000
structure Grw (w w':World):Prop where
  b:Below w.heap.size w w'
  d:w.drawn≤w'.drawn
theorem Grw.to {w w':World} (h:Grw w w'):∃ q os',w'=Sort.grow (w.drewN q) os':=by
  obtain ⟨hb,hd⟩:=h;refine ⟨w'.drawn - w.drawn,w'.heap.extract w.heap.size w'.heap.size,?_⟩;have h1:=hb.os;have h2:=hb.tape;have h3:=hb.output;have h4:=hb.size
  have h5:w'.heap=w.heap ++ w'.heap.extract w.heap.size w'.heap.size:=by
    apply Array.ext_getElem?;intro i;by_cases hi:i<w.heap.size
    · rw [Array.getElem?_append_left hi];exact hb.block i hi
    · rw [Array.getElem?_append_right (by omega)]
      by_cases hj:i<w'.heap.size
      · have e:w.heap.size+(i - w.heap.size)=i:=by omega
        rw [Array.getElem?_extract_of_lt (by omega),Array.getElem?_eq_getElem hj];simp only [e]
      · rw [Array.getElem?_eq_none (by omega),Array.getElem?_eq_none (by simp;omega)]
  obtain ⟨hp,tp,dr,os,ou⟩:=w;obtain ⟨hp',tp',dr',os',ou'⟩:=w';simp only at h1 h2 h3 h4 h5 hd;unfold Sort.grow World.drewN;simp only [World.mk.injEq];exact ⟨h5,h2,by omega,h1,h3⟩
theorem c_keyOfG (c:Ce) (w:World):Calls Tryz.prog 118 #[.agg (ceArr c)] w fun e w'=>e=.returned (.agg #[.int .i64 c.n,.string c.s])∧Grw w w':=by
  go_enter Tryz.func118,Tryz.ntmps118;go_wp2;refine bodyPost_ret (v:=.agg #[.int .i64 c.n,.string c.s]) (by simp [results,Tryz.results118,go_sem]) rfl ⟨rfl,?_,?_⟩
  · first
    | exact ((Below.refl _ _).alloc (Nat.le_refl _) _).alloc (by simp) _
    | (repeat (refine Below.setCell ?_ (by simp) _)
       exact ((Below.refl _ _).alloc (Nat.le_refl _) _).alloc (by simp) _)
  · exact Nat.le_refl _
set_option maxHeartbeats 2000000 in
theorem c_compareKeysG (n:Int) (s:ByteArray) (n':Int) (s':ByteArray) (w:World) :
    Calls Tryz.prog 117 #[.agg #[.int .i64 n,.string s],.agg #[.int .i64 n',.string s']] w fun e w'=>e=.returned (.int .i64 (cmpK n s n' s'))∧Grw w w':=by
  have HB0:Hid (∀ o o',Below w.heap.size w ((w.alloc o).alloc o')):=fun o o'=>((Below.refl _ _).alloc (Nat.le_refl _) o).alloc (by simp) o'
  have HN:Hid (∀ T,((w.alloc (.cells #[.int .i64 n,.string s] T)).alloc (.cells #[.int .i64 n',.string s'] T)).heap[w.heap.size]?=some (.cells #[.int .i64 n,.string s] T (0,0))∧((w.alloc (.cells #[.int .i64 n,.string s] T)).alloc (.cells #[.int .i64 n',.string s'] T)).heap[w.heap.size+1]?=some (.cells #[.int .i64 n',.string s'] T (0,0))):=fun T=>by
    have k0:=heap_alloc_new w (.cells #[.int .i64 n,.string s] T);have k1:=heap_alloc_new (w.alloc (.cells #[.int .i64 n,.string s] T)) (.cells #[.int .i64 n',.string s'] T);simp only [World.size_alloc] at k1;exact ⟨(((Below.refl (w.alloc (.cells #[.int .i64 n,.string s] T)).heap.size (w.alloc (.cells #[.int .i64 n,.string s] T))).alloc (Nat.le_refl _) (.cells #[.int .i64 n',.string s'] T)).block _ (by simp)).trans k0,k1⟩
  go_enter Tryz.func117,Tryz.ntmps117;go_wp2_with fail;have HR:=hide (HN.out 152);have HB1:=hide (HB0.out (.cells #[.int .i64 n,.string s] 152) (.cells #[.int .i64 n',.string s'] 152));have hsz:((w.alloc (.cells #[.int .i64 n,.string s] 152)).alloc (.cells #[.int .i64 n',.string s'] 152)).heap.size=w.heap.size+1+1:=by simp
  have hd0:w.drawn≤((w.alloc (.cells #[.int .i64 n,.string s] 152)).alloc (.cells #[.int .i64 n',.string s'] 152)).drawn:=Nat.le_refl _;have HD0:=hide hd0;clear hd0;generalize (w.alloc (.cells #[.int .i64 n,.string s] 152)).alloc (.cells #[.int .i64 n',.string s'] 152)=W0 at HR HB1 HD0 hsz ⊢;clear HN HB0;have R0:(fun W=>W.heap[w.heap.size]?=some (.cells #[.int .i64 n,.string s] 152 (0,0))∧W.heap[w.heap.size+1]?=some (.cells #[.int .i64 n',.string s'] 152 (0,0))) W0.drew:=HR.out;refine regionK (fun W=>W.heap[w.heap.size]?=some (.cells #[.int .i64 n,.string s] 152 (0,0))∧W.heap[w.heap.size+1]?=some (.cells #[.int .i64 n',.string s'] 152 (0,0))) 12 (by kernel_rfl) ?_;refine tkL (i:=0) (v:=.pointer (some ⟨w.heap.size,0,none⟩)) rfl rfl R0 (fun W hW=>?_) ?_
  · have x0:=cellKC hW.1 0 rfl
    have x1:=cellKC hW.1 1 rfl;have y0:=cellKC hW.2 0 rfl;have y1:=cellKC hW.2 1 rfl;clear hW;go_simp
  refine tkL (i:=1) (v:=.int .i64 n) rfl rfl R0 (fun W hW=>?_) ?_
  · have x0:=cellKC hW.1 0 rfl
    have x1:=cellKC hW.1 1 rfl;have y0:=cellKC hW.2 0 rfl;have y1:=cellKC hW.2 1 rfl;clear hW;go_simp
  refine tkL (i:=2) (v:=.pointer (some ⟨w.heap.size+1,0,none⟩)) rfl rfl R0 (fun W hW=>?_) ?_
  · have x0:=cellKC hW.1 0 rfl
    have x1:=cellKC hW.1 1 rfl;have y0:=cellKC hW.2 0 rfl;have y1:=cellKC hW.2 1 rfl;clear hW;go_simp
  simp only [sA,sB,sC];refine tkL (i:=3) (v:=.int .i64 n') rfl rfl R0 (fun W hW=>?_) ?_
  · have x0:=cellKC hW.1 0 rfl
    have x1:=cellKC hW.1 1 rfl;have y0:=cellKC hW.2 0 rfl;have y1:=cellKC hW.2 1 rfl;clear hW;go_simp
  refine tkL (i:=5) (v:=.pointer (some ⟨w.heap.size,1,none⟩)) rfl rfl R0 (fun W hW=>?_) ?_
  · have x0:=cellKC hW.1 0 rfl
    have x1:=cellKC hW.1 1 rfl;have y0:=cellKC hW.2 0 rfl;have y1:=cellKC hW.2 1 rfl;clear hW;go_simp
  refine tkL (i:=6) (v:=.string s) rfl rfl R0 (fun W hW=>?_) ?_
  · have x0:=cellKC hW.1 0 rfl
    have x1:=cellKC hW.1 1 rfl;have y0:=cellKC hW.2 0 rfl;have y1:=cellKC hW.2 1 rfl;clear hW;go_simp
  simp only [sA,sB,sC];refine tkL (i:=7) (v:=.pointer (some ⟨w.heap.size+1,1,none⟩)) rfl rfl R0 (fun W hW=>?_) ?_
  · have x0:=cellKC hW.1 0 rfl
    have x1:=cellKC hW.1 1 rfl;have y0:=cellKC hW.2 0 rfl;have y1:=cellKC hW.2 1 rfl;clear hW;go_simp
  refine tkL (i:=8) (v:=.string s') rfl rfl R0 (fun W hW=>?_) ?_
  · have x0:=cellKC hW.1 0 rfl
    have x1:=cellKC hW.1 1 rfl;have y0:=cellKC hW.2 0 rfl;have y1:=cellKC hW.2 1 rfl;clear hW;go_simp
  simp only [sA,sB,sC];refine onE (i:=4) rfl (fun K hK=>?_);go_simp;refine (c_cmpCompare n n' _).mono ?_;rintro e wz ⟨rfl,hwz⟩;obtain rfl:=hwz.symm;dsimp only;refine hK.out _ _ (fun _=>R0) ?_;clear hK K
  try simp only [Act.put,sA,sB,sC]
  refine onE (i:=9) rfl (fun K hK=>?_);go_simp;refine (c_Compare s s' _).mono ?_;rintro e wz ⟨rfl,hwz⟩;obtain rfl:=hwz.symm;dsimp only;refine hK.out _ _ (fun _=>R0) ?_;clear hK K
  try simp only [Act.put,sA,sB,sC]
  have k2:=heap_alloc_new W0 (.cells #[.int .i64 (cmpW n n'),.int .i64 (cmpS s s')] 3);rw [hsz] at k2;have k3:(W0.alloc (.cells #[.int .i64 (cmpW n n'),.int .i64 (cmpS s s')] 3)).drew.heap[w.heap.size+1+1]?=some (.cells #[.int .i64 (cmpW n n'),.int .i64 (cmpS s s')] 3 (0,0)):=k2;have HC:=hide (And.intro (cellKC k3 0 rfl) (cellKC k3 1 rfl));clear k2 k3;have hA1:Below W0.heap.size W0 (W0.alloc (.cells #[.int .i64 (cmpW n n'),.int .i64 (cmpS s s')] 3)).drew:=((Below.refl _ _).alloc (Nat.le_refl _) _).drew;have R1:=And.intro ((hA1.block w.heap.size (by omega)).trans HR.out.1) ((hA1.block (w.heap.size+1) (by omega)).trans HR.out.2);have HT1:=hide (chain HB1.out hA1);clear hA1;refine onE (i:=10) rfl (fun K hK=>?_);go_simp;refine hK.out _ _ (fun _=>R1) ?_;clear hK K
  try simp only [Act.put,sA,sB,sC]
  refine onE (i:=11) rfl (fun K hK=>?_);go_simp;refine (c_cmpOr _ _ HC.out.1 HC.out.2).mono ?_;rintro e wz ⟨rfl,hwz⟩;obtain rfl:=hwz.symm;dsimp only;refine hK.out _ _ (fun _=>R1) ?_;clear hK K
  try simp only [Act.put,sA,sB,sC]
  refine onE (i:=12) rfl (fun K hK=>?_);go_simp;refine hK.out _ _ (fun h=>absurd rfl h) ?_;clear hK K
  try simp only [Act.put,sA,sB,sC]
  refine doneK (by kernel_rfl) ?_ _;go_wp2;go_ret;exact ⟨rfl,HT1.out,Nat.le_trans HD0.out (Nat.le_succ _)⟩
set_option maxHeartbeats 4000000 in
theorem c_compareCellsG {w:World} (c d:Ce) :
    Calls Tryz.prog 92 #[.agg (ceArr c),.agg (ceArr d)] w fun e w'=>e=.returned (.int .i64 (cmpK c.n c.s d.n d.s))∧Grw w w':=by
  have HB0:Hid (Below w.heap.size w ((w.alloc (.cells (ceArr c) 69)).alloc (.cells (ceArr d) 69))):=((Below.refl _ _).alloc (Nat.le_refl _) _).alloc (by simp) _;have HC:=hide (two_ce w 69 c d);go_enter Tryz.func92,Tryz.ntmps92;go_wp2_with fail;have HD0:Hid (w.drawn≤((w.alloc (.cells (ceArr c) 69)).alloc (.cells (ceArr d) 69)).drawn):=Nat.le_refl w.drawn;generalize (w.alloc (.cells (ceArr c) 69)).alloc (.cells (ceArr d) 69)=W0 at HC HB0 HD0 ⊢;have HS0:(fun W=>Below W0.heap.size W0 W) W0.drew:=(Below.refl _ _).drew;refine regionK (fun W=>Below W0.heap.size W0 W) 5 (by kernel_rfl) ?_;refine tkL (i:=0) (v:=.agg (ceArr c)) rfl rfl HS0 (fun W hW=>?_) ?_
  · obtain ⟨⟨x0,x1,x2,x3,x4,x5,x6,x7,x8,x9,x10,x11,x12,x13,x14⟩,⟨y0,y1,y2,y3,y4,y5,y6,y7,y8,y9,y10,y11,y12,y13,y14⟩⟩:=HC.out W hW
    clear hW;go_simp
  refine tkL (i:=2) (v:=.agg (ceArr d)) rfl rfl HS0 (fun W hW=>?_) ?_
  · obtain ⟨⟨x0,x1,x2,x3,x4,x5,x6,x7,x8,x9,x10,x11,x12,x13,x14⟩,⟨y0,y1,y2,y3,y4,y5,y6,y7,y8,y9,y10,y11,y12,y13,y14⟩⟩:=HC.out W hW
    clear hW;go_simp
  simp only [sA,sB,sC];refine onE (i:=1) rfl (fun K hK=>?_);go_simp;refine (c_keyOfG c _).mono ?_;rintro e w1 ⟨rfl,hb1,hd1⟩;have HB1:Hid (Below W0.heap.size W0 w1):=(HS0:Below W0.heap.size W0 W0.drew).trans (hb1.mono (Nat.le_refl _));have HD1:Hid (w.drawn≤w1.drawn):=Nat.le_trans HD0.out (Nat.le_trans (Nat.le_succ _) hd1);clear hb1 hd1;dsimp only;refine hK.out _ _ (fun _=>HB1.out) ?_;clear hK K
  try simp only [Act.put,sA,sB,sC]
  refine onE (i:=3) rfl (fun K hK=>?_);go_simp;refine (c_keyOfG d _).mono ?_;rintro e w2 ⟨rfl,hb2,hd2⟩;have HB2:Hid (Below W0.heap.size W0 w2):=chain HB1.out hb2;have HD2:Hid (w.drawn≤w2.drawn):=Nat.le_trans HD1.out hd2;clear hb2 hd2;dsimp only;refine hK.out _ _ (fun _=>HB2.out) ?_;clear hK K
  try simp only [Act.put,sA,sB,sC]
  refine onE (i:=4) rfl (fun K hK=>?_);go_simp;refine (c_compareKeysG c.n c.s d.n d.s _).mono ?_;rintro e w3 ⟨rfl,hb3,hd3⟩;have HB3:Hid (Below W0.heap.size W0 w3):=chain HB2.out hb3;have HD3:Hid (w.drawn≤w3.drawn):=Nat.le_trans HD2.out hd3;clear hb3 hd3;dsimp only;refine hK.out _ _ (fun _=>HB3.out) ?_;clear hK K
  try simp only [Act.put,sA,sB,sC]
  refine onE (i:=5) rfl (fun K hK=>?_);go_simp;refine hK.out _ _ (fun h=>absurd rfl h) ?_;clear hK K
  try simp only [Act.put,sA,sB,sC]
  refine doneK (by kernel_rfl) ?_ _;go_wp2;go_ret;exact ⟨rfl,chain HB0.out HB3.out,HD3.out⟩
end
section
open Go.ChangeShapes Go.WideShapes Go.ChangeAt Go.RowKit Go.PlainAid Go.Maps
set_option maxRecDepth 10000
theorem own_anyH {w:World} {B s n:Nat} {e:TypeId} {v:Value} {xs:List Value} (h:w.ownsRow B e s v n xs):∃ ao c,v=.slice ao n c:=by
  rcases h.2 with ⟨rfl,rfl⟩ | ⟨g,c,_,rfl,_⟩
  · exact ⟨none,0,rfl⟩
  · exact ⟨_,c,rfl⟩
end
section
open Go.ChangeShapes Go.WideShapes Go.ChangeAt Go.RowKit Go.PlainAid Go.Maps
set_option maxRecDepth 10000
theorem nums_news {kd:IntKind} {w:World} {b off:Nat} {L:List Int} (h:NumsAt kd w (some ⟨b,off,none⟩) L):∀ j u,(L.map (Value.int kd))[j]?=some u→w.cell? ⟨b,off+j,none⟩=some u:=fun j u hu=>by
  rw [List.getElem?_map] at hu;obtain ⟨x,hx,rfl⟩:=Option.map_eq_some_iff.1 hu;obtain ⟨b',off',e,hc⟩:=h (by have:=(List.getElem?_eq_some_iff.1 hx).1;omega)
  cases e
  exact hc j x hx
theorem sizeU (w:World):(Go.sizeOf 56).run Tryz.prog w=.ok 1 w:=Tryz.sizeOf56 w
theorem sizeI (w:World):(Go.sizeOf 2).run Tryz.prog w=.ok 1 w:=Tryz.sizeOf2 w
theorem c_cloneU {w:World} {ao:Option Addr} {n c:Nat} {L:List Int} (hn:L.length=n) (hl:n≤1048576) (hf:Flat ao) (hA:NumsAt .u64 w ao L) :
    Calls Tryz.prog 183 #[.slice ao n c] w fun e w'=>∃ v,e=.returned v∧w'.ownsRow w.heap.size 56 1 v L.length (L.map (Value.int .u64))∧Below w.heap.size w w':=by
  obtain ⟨i0,hi,hz0,hz1,hz2⟩:=info_parts infoUint64S;rcases hf with rfl | ⟨b,off,rfl⟩
  · obtain rfl:=nums_nil hA
    refine (Tryz.slices_Clone_nil_f183 _ _ _).mono ?_;rintro e w' ⟨rfl,rfl⟩;exact ⟨_,rfl,World.ownsRow_nil _ _ _ _,Below.refl _ _⟩
  · refine (Tryz.slices_Clone_f183 i0 _ 1 8 hi hz0 hz1 hz2 rfl (by omega) sizeU b off n c (L.map (Value.int .u64)) w (by simp [hn]) (by unfold maxLen;omega) (by omega) (nums_news hA) (by intro v hv;simp at hv;obtain ⟨x,_,rfl⟩:=hv;rfl)).mono ?_
    rintro e w' ⟨v,rfl,ho,_,hb⟩;exact ⟨v,rfl,by rw [hn];exact ho,hb⟩
theorem c_cloneI {w:World} {ao:Option Addr} {n c:Nat} {L:List Int} (hn:L.length=n) (hl:n≤1048576) (hf:Flat ao) (hA:NumsAt .i64 w ao L) :
    Calls Tryz.prog 184 #[.slice ao n c] w fun e w'=>∃ v,e=.returned v∧w'.ownsRow w.heap.size 2 1 v L.length (L.map (Value.int .i64))∧Below w.heap.size w w':=by
  obtain ⟨i0,hi,hz0,hz1,hz2⟩:=info_parts infoInt64S;rcases hf with rfl | ⟨b,off,rfl⟩
  · obtain rfl:=nums_nil hA
    refine (Tryz.slices_Clone_nil_f184 _ _ _).mono ?_;rintro e w' ⟨rfl,rfl⟩;exact ⟨_,rfl,World.ownsRow_nil _ _ _ _,Below.refl _ _⟩
  · refine (Tryz.slices_Clone_f184 i0 _ 1 8 hi hz0 hz1 hz2 rfl (by omega) sizeI b off n c (L.map (Value.int .i64)) w (by simp [hn]) (by unfold maxLen;omega) (by omega) (nums_news hA) (by intro v hv;simp at hv;obtain ⟨x,_,rfl⟩:=hv;rfl)).mono ?_
    rintro e w' ⟨v,rfl,ho,_,hb⟩;exact ⟨v,rfl,by rw [hn];exact ho,hb⟩
set_option maxHeartbeats 2000000 in
theorem c_copyHll {w:World} {ea ra:Option Addr} {n c m d:Nat} {E R:List Int} (h1:E.length=n) (h2:R.length=m) (l1:n≤1048576) (l2:m≤1048576) (f1:Flat ea) (f2:Flat ra) (hE:NumsAt .u64 w ea E) (hR:NumsAt .i64 w ra R) :
    Calls Tryz.prog 145 #[.agg #[.slice ea n c,.slice ra m d]] w fun e w'=>∃ v,e=.returned v∧HlOut w' w.heap.size v E R∧Below w.heap.size w w':=by
  have HE:=hide hE;have HR:=hide hR;have F1:=hide f1;have F2:=hide f2;have H1:=hide h1;have H2:=hide h2;have HBa:Hid (∀ o1 o2,Below w.heap.size w ((w.alloc o1).alloc o2)):=fun o1 o2=>((Below.refl _ _).alloc (Nat.le_refl _) _).alloc (by simp) _;clear hE hR f1 f2 h1 h2;go_enter Tryz.func145,Tryz.ntmps145;go_wp2_with fail;generalize hW0:(w.alloc (Obj.cells #[.slice ea n c,.slice ra m d] 65)).alloc (Obj.cells #[.slice none 0 0,.slice none 0 0] 65)=W0;have T0:Below w.heap.size w W0:=by rw [← hW0];exact HBa.out _ _
  have KR:=two_cell w 65 65 (.slice ea n c) (.slice ra m d) (.slice none 0 0) (.slice none 0 0) W0 (by rw [hW0];exact Below.refl _ _);have hsz0:W0.heap.size=w.heap.size+2:=by rw [← hW0];simp
  clear hW0;have HT0:=hide T0;have hC:∀ W,Below W0.heap.size W0 W→HlCell W w.heap.size (.slice ea n c) (.slice ra m d)∧W.heap[w.heap.size+1]?=some (.cells #[.slice none 0 0,.slice none 0 0] 65 (0,0)):=fun W hW=>⟨hl_past KR.1 hW,by rw [hW.block _ (by omega)];exact KR.2⟩;have HC:=hide hC;clear T0 hC KR;have HS0:(fun W=>Below W0.heap.size W0 W) W0.drew:=(Below.refl _ _).drew;refine regionK (fun W=>Below W0.heap.size W0 W) 7 (by kernel_rfl) ?_;refine tkL (i:=0) (v:=.pointer (some ⟨w.heap.size,0,none⟩)) rfl rfl HS0 (fun W hW=>?_) ?_
  · obtain ⟨⟨x0,x1⟩,_⟩:=HC.out W hW
    go_simp
  refine tkL (i:=1) (v:=.slice ea n c) rfl rfl HS0 (fun W hW=>?_) ?_
  · obtain ⟨⟨x0,x1⟩,_⟩:=HC.out W hW
    go_simp
  refine tkL (i:=3) (v:=.pointer (some ⟨w.heap.size,1,none⟩)) rfl rfl HS0 (fun W hW=>?_) ?_
  · obtain ⟨⟨x0,x1⟩,_⟩:=HC.out W hW
    go_simp
  simp only [sA,sB,sC];refine tkL (i:=4) (v:=.slice ra m d) rfl rfl HS0 (fun W hW=>?_) ?_
  · obtain ⟨⟨x0,x1⟩,_⟩:=HC.out W hW
    go_simp
  simp only [sA,sB,sC];refine onE (i:=2) rfl (fun K hK=>?_);go_simp;refine (c_cloneU H1.out l1 F1.out (nums_past HE.out (HT0.out.trans ((Below.refl _ _).drew.mono HT0.out.size)))).mono ?_;rintro e w1 ⟨v1,rfl,ho1,hb1⟩;dsimp only;have HB1:=hide ((HS0:Below W0.heap.size W0 W0.drew).trans hb1);have HO1:=hide (own_le (B':=W0.heap.size) ho1 (by show W0.heap.size≤W0.heap.size;omega));obtain ⟨ao1,c1,rfl⟩:=own_anyH ho1;clear ho1 hb1;refine hK.out _ _ (fun _=>HB1.out) ?_;clear hK K
  try simp only [Act.put,sA,sB,sC]
  refine onE (i:=5) rfl (fun K hK=>?_);go_simp;refine (c_cloneI H2.out l2 F2.out (nums_past HR.out (chain HT0.out HB1.out))).mono ?_;rintro e w2 ⟨v2,rfl,ho2,hb2⟩;dsimp only;have HB2:=hide (chain HB1.out hb2);have HO2:=hide (own_le (B':=W0.heap.size) ho2 HB1.out.size);have HO12:=hide (own_past HO1.out hb2);obtain ⟨ao2,c2,rfl⟩:=own_anyH ho2;clear ho2 hb2;refine hK.out _ _ (fun _=>HB2.out) ?_;clear hK K
  try simp only [Act.put,sA,sB,sC]
  refine tkS (i:=6) (v:=.agg #[.slice ao1 E.length c1,.slice ao2 R.length c2]) rfl rfl HB2.out ?_;simp only [sA,sB,sC];have R2:=(HC.out _ HB2.out).2;have q0:w2.cell? ⟨w.heap.size+1,0,none⟩=some (.slice none 0 0):=by rw [cell_of_row _ _ 0 _ _ (0,0) R2];rfl
  have q1:w2.cell? ⟨w.heap.size+1,1,none⟩=some (.slice none 0 0):=by rw [cell_of_row _ _ 1 _ _ (0,0) R2];rfl
  have f0:=fzR 0 R2;have f1:=fzR 1 R2;refine onE (i:=7) rfl (fun K hK=>?_);go_simp;refine hK.out _ _ (fun h=>absurd rfl h) ?_;clear hK K
  try simp only [Act.put,sA,sB,sC]
  refine doneK (by kernel_rfl) ?_ _;go_wp2;refine bodyPost_ret (v:=.agg #[.slice ao1 E.length c1,.slice ao2 R.length c2]) (by simp [results,Tryz.results145,go_sem,q0,q1]) rfl ⟨_,rfl,⟨_,_,rfl,?_,?_⟩,?_⟩
  · refine own_le (B:=W0.heap.size) ?_ (by omega)
    repeat (refine ownsRow_setCell_below ?_ (by simp;omega) _)
    exact HO12.out
  · refine own_le (B:=W0.heap.size) ?_ (by omega)
    repeat (refine ownsRow_setCell_below ?_ (by simp;omega) _)
    exact HO2.out
  · repeat (refine Below.setCell ?_ (by simp <;> omega) _)
    exact chain HT0.out HB2.out
end
section
open Go.ChangeShapes Go.WideShapes Go.ChangeAt Go.RowKit Go.PlainAid Go.Lib
set_option maxRecDepth 10000
theorem c_Clone {w:World} {ao:Option Addr} {L:List Bn} (c n:Nat) (hn:L.length=n) (hl:n≤1048576) (hA:BinsAt w ao L) :
    Calls Tryz.prog 182 #[.slice ao n c] w fun e w'=>∃ v,e=.returned v∧OwnB w' w.heap.size v n L∧Below w.heap.size w w':=by
  obtain ⟨i0,hi,hz0,hz1,hz2⟩:=info_parts infoBin
  cases ao with
  | none=>
    have h0:n=0:=by
      rcases Nat.eq_zero_or_pos n with h | h
      · exact h
      · obtain ⟨b,off,e,_⟩:=hA (by omega);cases e
    subst h0;have hq:=fun W=>Lib.run_eql_slice_nil (P:=Tryz.prog) W 59 128 none 0 c 0 0 Tryz.underlying59;have HN:=hide hn;clear hA hn;go_enter Tryz.func182,Tryz.ntmps182;go_wp2;go_ret;exact ⟨_,rfl,⟨HN.out.symm,.inl ⟨rfl,rfl⟩⟩,Below.refl _ _⟩
  | some A=>
    have hcs:∀ j z,(fl encB L)[j]?=some z→w.cell? (A.add j)=some z:=fun j z hz=>by
      have hj:=(List.getElem?_eq_some_iff.1 hz).1;rw [fl_len encB2] at hj;obtain ⟨b,off,e,hcell⟩:=hA (by omega)
      cases e
      obtain ⟨x,hx⟩:∃ x,L[j / 2]?=some x:=⟨L[j / 2]'(by omega),List.getElem?_eq_getElem (by omega)⟩;have h1:=fl_at encB2 L (j / 2) x (j % 2) (by omega) hx;rw [show j / 2*2+j % 2=j by omega,hz] at h1;have hc:=hcell (j / 2) x hx;rw [Addr.add_lit];have:j % 2=0∨j % 2=1:=by omega
      rcases this with e | e
      · rw [e] at h1;rw [show off+j=off+j / 2*2 by omega,hc.1];simpa [encB] using h1.symm
      · rw [e] at h1;rw [show off+j=off+j / 2*2+1 by omega,hc.2];simpa [encB] using h1.symm
    have HCs:=hide hcs;have hq:=fun W=>Lib.run_eql_slice_nil (P:=Tryz.prog) W 59 128 (some A) n c 0 0 Tryz.underlying59;have HN:=hide hn;clear hA hcs hn;go_enter Tryz.func182,Tryz.ntmps182;go_wp2_with (at_builtin;refine wpList_append_own _ rfl (.tmp 5) (.tmp 6) 59 rfl w.heap.size 128 i0 (.agg #[.int .i64 0,.int .u64 0]) 2 16 Tryz.underlying59 hi hz0 hz1 hz2 rfl (by decide) _ _ _ rfl (World.ownsRow_made _ #[] 0 (Nat.le_refl _) (Nat.zero_le _) rfl) A n c (fl encB L) rfl (by rw [fl_len encB2,HN.out]) (fun j z hz=>by have:=HCs.out j z hz;exact cell_on this _) (fl_oneB _) (by unfold maxLen;omega) (by omega) (by simp) ?_;intro v1 w1 hown1 hgrow1 hnil1;simp only [Nat.zero_add,List.nil_append] at hown1;have O1:=hide hown1;have B1:=hide (((Below.refl _ _).alloc (Nat.le_refl _) _).grown hgrow1 (by simp) (fun j hj=>by cases hj;exact Nat.le_refl _));clear hown1 hgrow1 hnil1);go_ret;exact ⟨_,rfl,OwnB.of O1.out HN.out.symm,B1.out⟩
set_option maxHeartbeats 2000000 in
theorem c_copySketch {w:World} {z h l:Int} {pa na:Option Addr} {pn pc nn nc:Nat} {P N:List Bn} (hp:P.length=pn) (hn:N.length=nn) (lp:pn≤1048576) (ln:nn≤1048576) (hP:BinsAt w pa P) (hN:BinsAt w na N) :
    Calls Tryz.prog 144 #[.agg #[.int .u64 z,.slice pa pn pc,.slice na nn nc,.int .i64 h,.int .u64 l]] w fun e w'=>∃ v,e=.returned v∧SkOut w' w.heap.size v z P N h l∧Below w.heap.size w w':=by
  have HP:=hide hP;have HN:=hide hN;clear hP hN;go_enter Tryz.func144,Tryz.ntmps144;go_wp2_with fail;generalize hW0:(w.alloc (Obj.cells #[.int .u64 z,.slice pa pn pc,.slice na nn nc,.int .i64 h,.int .u64 l] 61)).alloc (Obj.cells zeroSk 61)=W0;have T0:Below w.heap.size w W0:=by rw [← hW0];exact ((Below.refl _ _).alloc (Nat.le_refl _) _).alloc (by simp) _
  have K0:SkCell W0 w.heap.size z (.slice pa pn pc) (.slice na nn nc) h l:=by rw [← hW0];exact sk_past (sk_new w _ _ _ _ _ _) ((Below.refl _ _).alloc (Nat.le_refl _) _)
  have R0:W0.heap[w.heap.size+1]?=some (.cells zeroSk 61 (0,0)):=by rw [← hW0];simpa using heap_alloc_new (w.alloc (Obj.cells #[.int .u64 z,.slice pa pn pc,.slice na nn nc,.int .i64 h,.int .u64 l] 61)) (Obj.cells zeroSk 61)
  have hsz0:W0.heap.size=w.heap.size+2:=by rw [← hW0];simp
  clear hW0;have HT0:=hide T0;have hC:∀ W,Below W0.heap.size W0 W→SkCell W w.heap.size z (.slice pa pn pc) (.slice na nn nc) h l∧W.heap[w.heap.size+1]?=some (.cells zeroSk 61 (0,0)):=fun W hW=>⟨sk_past K0 hW,by rw [hW.block _ (by omega)];exact R0⟩;have HC:=hide hC;clear T0 hC K0 R0;have HS0:(fun W=>Below W0.heap.size W0 W) W0.drew:=(Below.refl _ _).drew;refine regionK (fun W=>Below W0.heap.size W0 W) 11 (by kernel_rfl) ?_;refine tkL (i:=0) (v:=.pointer (some ⟨w.heap.size,0,none⟩)) rfl rfl HS0 (fun W hW=>?_) ?_
  · obtain ⟨⟨x0,x1,x2,x3,x4⟩,_⟩:=HC.out W hW
    go_simp
  refine tkL (i:=1) (v:=.int .u64 z) rfl rfl HS0 (fun W hW=>?_) ?_
  · obtain ⟨⟨x0,x1,x2,x3,x4⟩,_⟩:=HC.out W hW
    go_simp
  refine tkL (i:=2) (v:=.pointer (some ⟨w.heap.size,1,none⟩)) rfl rfl HS0 (fun W hW=>?_) ?_
  · obtain ⟨⟨x0,x1,x2,x3,x4⟩,_⟩:=HC.out W hW
    go_simp
  simp only [sA,sB,sC];refine tkL (i:=3) (v:=.slice pa pn pc) rfl rfl HS0 (fun W hW=>?_) ?_
  · obtain ⟨⟨x0,x1,x2,x3,x4⟩,_⟩:=HC.out W hW
    go_simp
  refine tkL (i:=5) (v:=.pointer (some ⟨w.heap.size,2,none⟩)) rfl rfl HS0 (fun W hW=>?_) ?_
  · obtain ⟨⟨x0,x1,x2,x3,x4⟩,_⟩:=HC.out W hW
    go_simp
  refine tkL (i:=6) (v:=.slice na nn nc) rfl rfl HS0 (fun W hW=>?_) ?_
  · obtain ⟨⟨x0,x1,x2,x3,x4⟩,_⟩:=HC.out W hW
    go_simp
  simp only [sA,sB,sC];refine tkL (i:=8) (v:=.pointer (some ⟨w.heap.size,3,none⟩)) rfl rfl HS0 (fun W hW=>?_) ?_
  · obtain ⟨⟨x0,x1,x2,x3,x4⟩,_⟩:=HC.out W hW
    go_simp
  refine tkL (i:=9) (v:=.agg #[.int .i64 h,.int .u64 l]) rfl rfl HS0 (fun W hW=>?_) ?_
  · obtain ⟨⟨x0,x1,x2,x3,x4⟩,_⟩:=HC.out W hW
    go_simp
  simp only [sA,sB,sC];refine onE (i:=4) rfl (fun K hK=>?_);go_simp;refine (c_Clone _ _ hp lp (bins_past HP.out (HT0.out.trans ((Below.refl _ _).drew.mono HT0.out.size)))).mono ?_;rintro e w1 ⟨v1,rfl,ho1,hb1⟩;dsimp only;have HB1:=hide ((HS0:Below W0.heap.size W0 W0.drew).trans hb1);have HO1:=hide (ho1.le (B':=w.heap.size) (by show w.heap.size≤W0.heap.size;omega));obtain ⟨ao1,c1,rfl⟩:=ho1.any;clear ho1 hb1;refine hK.out _ _ (fun _=>HB1.out) ?_;clear hK K
  try simp only [Act.put,sA,sB,sC]
  refine onE (i:=7) rfl (fun K hK=>?_);go_simp;refine (c_Clone _ _ hn ln (bins_past HN.out (chain HT0.out HB1.out))).mono ?_;rintro e w2 ⟨v2,rfl,ho2,hb2⟩;dsimp only;have HB2:=hide (chain HB1.out hb2);have HO2:=hide (ho2.le (B':=w.heap.size) (by have:=HB1.out.size;omega));have HO12:=hide (HO1.out.past hb2);have HAp:Hid (Apart (.slice ao1 pn c1) v2):=(fun k e1 e2=>by have:=(HO1.out.lt k e1).2;have:=(ho2.lt k e2).1;omega:Apart (.slice ao1 pn c1) v2);obtain ⟨ao2,c2,rfl⟩:=ho2.any;clear ho2 hb2;refine hK.out _ _ (fun _=>HB2.out) ?_;clear hK K
  try simp only [Act.put,sA,sB,sC]
  refine tkS (i:=10) (v:=.agg #[.int .u64 z,.slice ao1 pn c1,.slice ao2 nn c2,.int .i64 h,.int .u64 l]) rfl rfl HB2.out ?_;simp only [sA,sB,sC];have R2:=(HC.out _ HB2.out).2;obtain ⟨q0,q1,q2,q3,q4⟩:=cell5 R2;have f0:=fzR 0 R2;have f1:=fzR 1 R2;have f2:=fzR 2 R2;have f3:=fzR 3 R2;have f4:=fzR 4 R2;refine onE (i:=11) rfl (fun K hK=>?_);go_simp;refine hK.out _ _ (fun h=>absurd rfl h) ?_;clear hK K
  try simp only [Act.put,sA,sB,sC]
  refine doneK (by kernel_rfl) ?_ _;go_wp2;refine bodyPost_ret (v:=.agg #[.int .u64 z,.slice ao1 pn c1,.slice ao2 nn c2,.int .i64 h,.int .u64 l]) (by simp [results,Tryz.results144,go_sem,q0,q1,q2,q3,q4]) rfl ⟨_,rfl,⟨_,_,pn,nn,rfl,?_,?_,HAp.out⟩,?_⟩
  · have hne:=HO12.out.ne R2 (by decide)
    repeat (refine OwnB.set ?_ hne _)
    exact HO12.out
  · have hne:=HO2.out.ne R2 (by decide)
    repeat (refine OwnB.set ?_ hne _)
    exact HO2.out
  · repeat (refine Below.setCell ?_ (by simp <;> omega) _)
    exact chain HT0.out HB2.out
end
instance inhCe:Inhabited Ce:=⟨⟨0,⟨#[]⟩,agZero,⟨none,0,none,0,none,0,none,0⟩⟩⟩
section
open Go.ChangeShapes Go.WideShapes Go.ChangeAt Go.RowKit Go.PlainAid Go.Lib Go.Maps
set_option maxRecDepth 10000
theorem asc_one:∀ {L M:List Ce},AscC L→AscC M→L.Perm M→L=M
  | [],M,_,_,p=>by
    have:=p.length_eq
    cases M with
    | nil=>rfl
    | cons _ _=>simp at this
  | c :: L,M,h,k,p=>by
    cases M with
    | nil=>have:=p.length_eq;simp at this
    | cons d M=>
      obtain ⟨h1,h2⟩:=List.pairwise_cons.1 h;obtain ⟨k1,k2⟩:=List.pairwise_cons.1 k
      have e:c=d:=by
        rcases List.mem_cons.1 (p.mem_iff.1 (List.mem_cons_self (a:=c) (l:=L))) with e | e
        · exact e
        · rcases List.mem_cons.1 (p.mem_iff.2 (List.mem_cons_self (a:=d) (l:=M))) with e2 | e2
          · exact e2.symm
          · have q1:=k1 c e
            have q2:=h1 d e2;rw [cAh_ant q1] at q2;cases q2
      subst e;rw [asc_one h2 k2 ((List.perm_cons _).1 p)]
def cfC (c d:Ce):Int:=cmpK c.n c.s d.n d.s
theorem cfC_lt (c d:Ce):decide (cfC c d<0)=cAh c d:=by
  have h:=cmpK_ge c d;unfold cfC
  cases q:cAh c d
  · rw [q] at h
    have:0≤cmpK c.n c.s d.n d.s:=by simpa using h
    simp;omega
  · rw [q] at h
    have:¬ 0≤cmpK c.n c.s d.n d.s:=by simpa using h
    simp;omega
theorem asc_of_sorted {d:Array Ce} (h:Sort.SortedIn (fun x y=>decide (cfC x y<0)) 0 d.size d) (hp:d.toList.Pairwise (fun c e=>¬ SameKey c e)):AscC d.toList:=by
  refine List.pairwise_iff_getElem.2 (fun i j hi hj hij=>?_);have h1:cAh d[j]! d[i]! = false:=by rw [← cfC_lt];exact h i j (Nat.zero_le _) hij (by simpa using hj)
  have hi':i<d.size:=by simpa using hi
  have hj':j<d.size:=by simpa using hj
  rw [getElem!_pos d i hi',getElem!_pos d j hj'] at h1;have hne:=(List.pairwise_iff_getElem.1 hp) i j hi hj hij;simp only [Array.getElem_toList] at hne ⊢
  cases q:cAh d[i] d[j]
  · exact absurd (cAh_tot q h1) hne
  · rfl
end
section
open Go.ChangeShapes Go.WideShapes Go.ChangeAt Go.RowKit Go.PlainAid Go.Lib Go.Shelf
open Go.Sort hiding Below
set_option maxRecDepth 10000
theorem holdsK_C {w:World} {B g cp:Nat} {xs:List Ce} (h:OwnC w B (.slice (some ⟨g,0,none⟩) xs.length cp) xs):HoldsK ceL 15 w g 0 xs.toArray:=by
  intro j hj;have hj':j<xs.length*15:=by simpa using hj
  rw [Nat.zero_add];refine ⟨?_,World.ownsRow.frozenAt h j⟩;rw [World.ownsRow.cellAt h j hj',get_flatK _ _ _ _ (by simpa using hj')];have hi:j / 15<xs.length:=by omega
  obtain ⟨x,hx⟩:∃ x,xs[j / 15]?=some x:=⟨_,List.getElem?_eq_getElem hi⟩;have h1:=flC_at xs (j / 15) x (j % 15) (by omega) hx;rw [show j / 15*15+j % 15=j by omega] at h1
  have h2:xs.toArray[j / 15]! = x:=by
    have:=(List.getElem?_eq_some_iff.1 hx).2;simp [hi,this]
  rw [h1,h2];have hm:j % 15<(ceL x).length:=by rw [ceL_len];omega
  simp [hm]
theorem grown_sortC (w:World) (g o n:Nat) (d:Array Ce) (os:Array Obj):w.grownBy (sortWorldK ceL 15 w g o n d os) (some g):=by
  refine ⟨rfl,rfl,rfl,size_sortWorldK_c _ _ _ _ _ _ _ _,fun j hj hne=>?_⟩;unfold sortWorldK;rw [heap_grow_old _ _ (by rw [size_putRowK];exact hj)];have:g≠j:=fun e=>hne (by rw [e]);simp [putRowK,putRow,mapBlock,Sort.ahead,Array.getElem?_modify,this]
theorem size_putC {α:Type} [Inhabited α] (enc:α→Value) (off:Nat) (d:Array α) (c:Array Value):(putCells enc off d c).size=c.size:=by
  unfold putCells;simp
theorem own_sort {w:World} {B g cp n:Nat} {L:List Ce} {d:Array Ce} {os:Array Obj} (h:OwnC w B (.slice (some ⟨g,0,none⟩) L.length cp) L) (hd:d.size=L.length) (hs:g<w.heap.size) :
    OwnC (sortWorldK ceL 15 w g 0 n d os) B (.slice (some ⟨g,0,none⟩) d.toList.length cp) d.toList:=by
  have hH:=holdsK_C h;have hH1:HoldsK ceL 15 (sortWorldK ceL 15 w g 0 n d os) g 0 d:=holdsK_sortWorldK_c _ _ _ _ _ _ d _ _ hH hs (by simp [hd]);rcases h.2 with ⟨e,q⟩ | ⟨g',cap,cur,e,q1,q2,q3,q4,q5,q6⟩
  · cases e
  · injection e with e1 e2 e3
    injection e1 with e1;injection e1 with e1;subst e1;subst e3
    have hb:(sortWorldK ceL 15 w g 0 n d os).heap[g]?=some (.cells (putCells id 0 (flatK ceL 15 d) cur) 69 (0,0)):=by
      unfold sortWorldK;rw [heap_grow_old _ _ (by rw [size_putRowK];exact hs)];simp [putRowK,putRow,mapBlock,Sort.ahead,Array.getElem?_modify,q2,onCells]
    have hl:d.toList.length=L.length:=by simpa using hd
    refine ⟨by rw [flC_len],.inr ⟨g,cp,_,rfl,q1,hb,by omega,q4,by rw [size_putC,q5],?_⟩⟩;have hc15:d.size*15≤(putCells id 0 (flatK ceL 15 d) cur).size:=by rw [size_putC,q5,hd];exact Nat.mul_le_mul_right _ q3
    apply List.ext_getElem?;intro j;by_cases hj:j<d.toList.length*15
    · rw [List.getElem?_take_of_lt hj]
      have hj2:j<d.size*15:=by simpa using hj
      have k:=(hH1 j (by simpa using hj2)).1;rw [Nat.zero_add,cell_of_row _ _ _ _ _ (0,0) hb,get_flatK _ _ _ _ hj2] at k;have hi:j / 15<d.toList.length:=by omega
      obtain ⟨x,hx⟩:∃ x,d.toList[j / 15]?=some x:=⟨_,List.getElem?_eq_getElem hi⟩;have h1:=flC_at d.toList (j / 15) x (j % 15) (by omega) hx;rw [show j / 15*15+j % 15=j by omega] at h1;have hi2:j / 15<d.size:=by simpa using hi
      have h2:d[j / 15]! = x:=by
        have:=(List.getElem?_eq_some_iff.1 hx).2;rw [getElem!_pos d _ hi2]
        simpa using this
      rw [h2] at k;rw [Array.getElem?_toList,k,h1];have hm:j % 15<(ceL x).length:=by rw [ceL_len];omega
      simp [hm]
    · rw [List.getElem?_eq_none (by simp;omega),List.getElem?_eq_none (by rw [flC_len];omega)]
end
section
open Go.ChangeShapes Go.WideShapes Go.ChangeAt Go.RowKit Go.PlainAid Go.Lib Go.Shelf Go.Maps
open Go.Sort hiding Below
set_option maxRecDepth 10000
theorem c_insNone (fv:Value) (w:World):Calls Tryz.prog 149 #[.slice none 0 0,.int .i64 0,.int .i64 0,fv] w fun e w'=>e=.returned (.tuple #[])∧w'=w:=by
  go_enter Tryz.func149,Tryz.ntmps149;go_wp2;refine wp_loop_rounds 1 ?_;rw [rounds_succ];go_wp2
  go_end0
  exact ⟨rfl,rfl⟩
theorem c_pdqNone (lim:Int) (fv:Value) (w:World):Calls Tryz.prog 115 #[.slice none 0 0,.int .i64 0,.int .i64 0,.int .i64 lim,fv] w fun e w'=>e=.returned (.tuple #[])∧w'=w:=by
  go_enter Tryz.func115,Tryz.ntmps115;go_wp2;refine wp_loop_rounds 1 ?_;rw [rounds_succ];go_wp2_with (go_at_call 149;refine (c_insNone _ _).mono ?_;rintro e w' ⟨rfl,hw⟩;obtain rfl:=hw.symm)
  (try simp only [Exit.inBlock,Exit.then])
  refine bodyPost_ret (results_none rfl _ _ _) rfl ?_;exact ⟨rfl,rfl⟩
theorem c_bitsLen0 (w:World):Calls Tryz.prog 116 #[.int .u64 0] w fun e w'=>(∃ l,e=.returned (.int .i64 l))∧w'=w:=by
  go_enter Tryz.func116,Tryz.ntmps116;go_wp2;go_ret;exact ⟨⟨_,rfl⟩,rfl⟩
theorem c_sortNone (fv:Value) (w:World):Calls Tryz.prog 91 #[.slice none 0 0,fv] w fun e w'=>e=.returned (.tuple #[])∧w'=w:=by
  go_enter Tryz.func91,Tryz.ntmps91
  go_wp2_with (first
    | (go_at_call 116;refine (c_bitsLen0 _).mono ?_;rintro e w' ⟨⟨l,rfl⟩,hw⟩;obtain rfl:=hw.symm)
    | (go_at_call 115;refine (c_pdqNone _ _ _).mono ?_;rintro e w' ⟨rfl,hw⟩;obtain rfl:=hw.symm))
  go_end0
  exact ⟨rfl,rfl⟩
theorem cAh_ntrans {a b c:Ce} (h:cAh a b=false) (k:cAh b c=false):cAh a c=false:=by
  unfold cAh at *;simp only [Bool.or_eq_false_iff,Bool.and_eq_false_iff,decide_eq_false_iff_not,beq_eq_false_iff_ne] at *;refine ⟨by omega,?_⟩;by_cases e:a.n=c.n
  · have e1:a.n=b.n:=by omega
    have e2:b.n=c.n:=by omega
    exact .inr (strLe_trans (k.2.resolve_left (fun q=>q e2)) (h.2.resolve_left (fun q=>q e1)))
  · exact .inl e
theorem swoCe:SWO (ltOf cfC):=by
  have e:ltOf cfC=cAh:=by funext x y;exact cfC_lt x y
  rw [e];exact ⟨cAh_irr,fun a b c=>cAh_trans,fun a b c=>cAh_ntrans⟩
theorem sorted_asc {L M:List Ce} {d:Array Ce} (hL:AscC L) (hp:M.Perm L) (p:PermIn 0 M.length M.toArray d) (hs:SortedIn (ltOf cfC) 0 M.length d):d.toList=L∧d.size=M.length:=by
  obtain ⟨hz,_,hpm⟩:=p;have hz':d.size=M.length:=by simpa using hz
  have e1:d.extract 0 M.length=d:=by rw [← hz'];simp
  have e2:M.toArray.extract 0 M.length=M.toArray:=by simp
  rw [e1,e2] at hpm;have pL:d.toList.Perm L:=hpm.trans (by simpa using hp);rw [← hz'] at hs;have ap:d.toList.Pairwise (fun c e=>¬ SameKey c e):=(pL.symm.pairwise_iff (fun {a b} (q:¬ SameKey a b)=>fun e=>q ⟨e.1.symm,e.2.symm⟩)).1 hL.ap;exact ⟨asc_one (asc_of_sorted hs ap) hL pL,hz'⟩
theorem eg_cmp:∀ args w,(callFunc 92 args).run Tryz.prog w=.ok (.enter 92 args) w:=enters_of Tryz.func92 (by kernel_rfl) rfl
theorem c_sortCells {w:World} {B:Nat} {v:Value} {L M:List Ce} (hL:AscC L) (hp:M.Perm L) (lM:M.length≤1048576) (h:OwnC w B v M) :
    Calls Tryz.prog 91 #[v,.func (.func 92) #[] #[]] w fun e w'=>e=.returned (.tuple #[])∧OwnC w' B v L∧Below B w w'∧w.grownBy w' v.ownBlock:=by
  rcases h.2 with ⟨rfl,q⟩ | ⟨g,cap,cur,rfl,q1,q2,q3⟩
  · have e0:M=[]:=List.eq_nil_of_length_eq_zero q
    subst e0
    obtain rfl:L=[]:=by
      have:=hp.length_eq;exact List.eq_nil_of_length_eq_zero (by simpa using this.symm)
    refine (c_sortNone _ w).mono ?_;rintro e w' ⟨rfl,rfl⟩;exact ⟨rfl,h,Below.refl _ _,World.grownBy.refl _ _⟩
  · have hgs:g<w.heap.size:=(Array.getElem?_eq_some_iff.1 q2).1
    have hH:=holdsK_C h;have hcon:=AnyQ.slices_SortFunc (α:=Ce) Tryz.laysSort 15 Tryz.isAgg69 Tryz.sizeOf69 ceL ceL_len ceL_one cfC swoCe 92 #[] g 0 cap M.toArray w eg_cmp (fun _ _ _ _ x y=>(c_compareCellsG x y).mono (fun e w' q=>⟨q.1,q.2.to⟩)) hH hgs (by simp;omega);have hsz:M.toArray.size=M.length:=by simp
    rw [hsz] at hcon
    change Calls Tryz.prog 91 _ _ _ at hcon
    refine hcon.mono ?_;rintro e w' ⟨rfl,d',n,os,hpm,hst,rfl⟩;obtain ⟨e1,e2⟩:=sorted_asc hL hp hpm hst;have ho:=own_sort (n:=n) (os:=os) h e2 hgs;rw [e1] at ho;have hl:L.length=M.length:=by rw [← e1,Array.length_toList,e2]
    rw [hl] at ho;have hg:=grown_sortC w g 0 n d' os;exact ⟨rfl,ho,(Below.refl B w).grown hg (Nat.le_trans q1 (Nat.le_of_lt hgs)) (fun j hj=>by cases hj;exact q1),hg⟩
end
section
open Go.ChangeShapes Go.WideShapes Go.ChangeAt Go.RowKit Go.PlainAid Go.Lib
set_option maxRecDepth 10000
set_option maxHeartbeats 8000000 in
theorem c_copyAgg {w:World} {g:Ag} {p:Pl} (sm:AgSm g) (pl:PlG g p) (hA:AgAt w g p) :
    Calls Tryz.prog 112 #[.agg (agArr g p)] w fun e w'=>AgRes w (fun o=>o=g) e w':=by
  have SM:=hide sm;have PL:=hide pl;have HA:=hide hA;clear sm pl hA;obtain ⟨HT0,HC⟩:=box_ag w g p;have hsz:=box_szs w (.cells (agArr g p) 67) (.cells z13 67);go_enter Tryz.func112,Tryz.ntmps112;go_wp2_with fail;generalize (w.alloc (.cells (agArr g p) 67)).alloc (.cells z13 67)=W0 at HT0 HC hsz ⊢;have HD0:Hid (Below W0.heap.size W0 W0.drew):=(Below.refl _ _).drew;have HS0:(fun W=>W.cell? ⟨w.heap.size,11,none⟩=some (.slice p.ea g.E.length p.ec)∧W.cell? ⟨w.heap.size,12,none⟩=some (.slice p.ra g.R.length p.rc)) W0.drew:=⟨cellK (HC.out _ HD0.out).1 11 rfl,cellK (HC.out _ HD0.out).1 12 rfl⟩;refine regionK (fun W=>W.cell? ⟨w.heap.size,11,none⟩=some (.slice p.ea g.E.length p.ec)∧W.cell? ⟨w.heap.size,12,none⟩=some (.slice p.ra g.R.length p.rc)) 9 (by kernel_rfl) ?_;refine tkS (i:=0) (v:=.pointer (some ⟨w.heap.size,6,none⟩)) rfl rfl HS0 ?_;refine tkS (i:=3) (v:=.pointer (some ⟨w.heap.size,11,none⟩)) rfl rfl HS0 ?_;refine tkL (i:=4) (v:=.agg #[.slice p.ea g.E.length p.ec,.slice p.ra g.R.length p.rc]) rfl rfl HS0 (fun W hW=>?_) ?_
  · have x11:=hW.1
    have x12:=hW.2;clear hW;go_simp
  simp only [sA,sB,sC];have HR0:=hide (HC.out _ HD0.out).1;have q0:=cellK HR0.out 0 rfl;have q1:=cellK HR0.out 1 rfl;have q2:=cellK HR0.out 2 rfl;have q3:=cellK HR0.out 3 rfl;have q4:=cellK HR0.out 4 rfl;have q5:=cellK HR0.out 5 rfl;have q6:=cellK HR0.out 6 rfl;have q7:=cellK HR0.out 7 rfl;have q8:=cellK HR0.out 8 rfl;have q9:=cellK HR0.out 9 rfl;have q10:=cellK HR0.out 10 rfl;have q11:=cellK HR0.out 11 rfl;have q12:=cellK HR0.out 12 rfl;refine onE (i:=1) rfl (fun K hK=>?_);go_simp;refine hK.out _ _ (fun _=>HS0) ?_;clear hK K
  try simp only [Act.put,sA,sB,sC]
  clear q0 q1 q2 q3 q4 q5 q6 q7 q8 q9 q10 q11 q12;refine onE (i:=2) rfl (fun K hK=>?_);go_simp;refine (c_copySketch rfl rfl SM.out.P SM.out.N (bins_past HA.out.P (chain HT0.out HD0.out)) (bins_past HA.out.N (chain HT0.out HD0.out))).mono ?_;rintro e w1 ⟨v1,rfl,⟨vp,vn,pn,nn,rfl,o1,o2,hap⟩,hb1⟩;obtain ⟨pa,pc,rfl⟩:=o1.any;obtain ⟨na,nc,rfl⟩:=o2.any;obtain rfl:=o1.1;obtain rfl:=o2.1;have HB1:Hid (Below W0.heap.size W0 w1):=chain HD0.out hb1;have HO1:=hide (And.intro (o1.le (show W0.heap.size≤W0.drew.heap.size from Nat.le_refl _)) (And.intro (o2.le (show W0.heap.size≤W0.drew.heap.size from Nat.le_refl _)) hap));have HS1:(fun W=>W.cell? ⟨w.heap.size,11,none⟩=some (.slice p.ea g.E.length p.ec)∧W.cell? ⟨w.heap.size,12,none⟩=some (.slice p.ra g.R.length p.rc)) w1:=⟨cellK (HC.out _ HB1.out).1 11 rfl,cellK (HC.out _ HB1.out).1 12 rfl⟩;clear o1 o2 hap hb1;dsimp only;refine hK.out _ _ (fun _=>HS1) ?_;clear hK K
  try simp only [Act.put,sA,sB,sC]
  refine tkS (i:=6) (v:=.pointer (some ⟨w.heap.size,6,none⟩)) rfl rfl HS1 ?_;simp only [sA,sB,sC];refine onE (i:=5) rfl (fun K hK=>?_);go_simp;refine (c_copyHll rfl rfl SM.out.E SM.out.R PL.out.fE PL.out.fR (nums_past HA.out.E (chain HT0.out HB1.out)) (nums_past HA.out.R (chain HT0.out HB1.out))).mono ?_;rintro e w2 ⟨v2,rfl,⟨ve,vr,rfl,o3,o4⟩,hb2⟩;obtain ⟨ea,ec,rfl⟩:=own_any o3;obtain ⟨ra,rc,rfl⟩:=own_any o4;have HB2:Hid (Below W0.heap.size W0 w2):=chain HB1.out hb2;have HO2:=hide (And.intro (own_le o3 HB1.out.size) (own_le o4 HB1.out.size));have HO1:=hide (And.intro (HO1.out.1.past hb2) (And.intro (HO1.out.2.1.past hb2) HO1.out.2.2));have HS2:(fun W=>W.cell? ⟨w.heap.size,11,none⟩=some (.slice p.ea g.E.length p.ec)∧W.cell? ⟨w.heap.size,12,none⟩=some (.slice p.ra g.R.length p.rc)) w2:=⟨cellK (HC.out _ HB2.out).1 11 rfl,cellK (HC.out _ HB2.out).1 12 rfl⟩;clear o3 o4 hb2;dsimp only;refine hK.out _ _ (fun _=>HS2) ?_;clear hK K
  try simp only [Act.put,sA,sB,sC]
  have HR2:=hide (HC.out _ HB2.out);have q0:=cellK HR2.out.1 0 rfl;have q1:=cellK HR2.out.1 1 rfl;have q2:=cellK HR2.out.1 2 rfl;have q3:=cellK HR2.out.1 3 rfl;have q4:=cellK HR2.out.1 4 rfl;have q5:=cellK HR2.out.1 5 rfl;have q6:=cellK HR2.out.1 6 rfl;have q7:=cellK HR2.out.1 7 rfl;have q8:=cellK HR2.out.1 8 rfl;have q9:=cellK HR2.out.1 9 rfl;have q10:=cellK HR2.out.1 10 rfl;have q11:=cellK HR2.out.1 11 rfl;have q12:=cellK HR2.out.1 12 rfl;have f0:=fzR 0 HR2.out.1;have f1:=fzR 1 HR2.out.1;have f2:=fzR 2 HR2.out.1;have f3:=fzR 3 HR2.out.1;have f4:=fzR 4 HR2.out.1;have f5:=fzR 5 HR2.out.1;have f6:=fzR 6 HR2.out.1;have f7:=fzR 7 HR2.out.1;have f8:=fzR 8 HR2.out.1;have f9:=fzR 9 HR2.out.1;have f10:=fzR 10 HR2.out.1;have f11:=fzR 11 HR2.out.1;have f12:=fzR 12 HR2.out.1;have z0:=cellK HR2.out.2 0 rfl;have z1:=cellK HR2.out.2 1 rfl;have z2:=cellK HR2.out.2 2 rfl;have z3:=cellK HR2.out.2 3 rfl;have z4:=cellK HR2.out.2 4 rfl;have z5:=cellK HR2.out.2 5 rfl;have z6:=cellK HR2.out.2 6 rfl;have z7:=cellK HR2.out.2 7 rfl;have z8:=cellK HR2.out.2 8 rfl;have z9:=cellK HR2.out.2 9 rfl;have z10:=cellK HR2.out.2 10 rfl;have z11:=cellK HR2.out.2 11 rfl;have z12:=cellK HR2.out.2 12 rfl;have k0:=fzR 0 HR2.out.2;have k1:=fzR 1 HR2.out.2;have k2:=fzR 2 HR2.out.2;have k3:=fzR 3 HR2.out.2;have k4:=fzR 4 HR2.out.2;have k5:=fzR 5 HR2.out.2;have k6:=fzR 6 HR2.out.2;have k7:=fzR 7 HR2.out.2;have k8:=fzR 8 HR2.out.2;have k9:=fzR 9 HR2.out.2;have k10:=fzR 10 HR2.out.2;have k11:=fzR 11 HR2.out.2;have k12:=fzR 12 HR2.out.2;refine onE (i:=7) rfl (fun K hK=>?_);go_simp;refine hK.out _ _ (fun _=>(by constructor <;> go_simp)) ?_;clear hK K
  try simp only [Act.put,sA,sB,sC]
  refine takeK (i:=8) (d:=10) (v:=.pointer (some ⟨w.heap.size,11,none⟩)) rfl rfl (by kernel_rfl) (by kernel_rfl) (by kernel_rfl) (by decide) (by kernel_rfl) (fun _ _ _ h=>h) (Or.inl ⟨by rfl,fun W hW=>?_⟩) (by constructor <;> go_simp) ?_
  · clear hW
    go_simp
  simp only [sA,sB,sC];refine onE (i:=9) rfl (fun K hK=>?_);go_simp;refine hK.out _ _ (fun h=>absurd rfl h) ?_;clear hK K
  try simp only [Act.put,sA,sB,sC]
  refine doneK (by kernel_rfl) ?_ _;go_wp2;refine bodyPost_ret (v:=.agg (agArr g ⟨pa,pc,na,nc,ea,ec,ra,rc⟩)) (by simp [results,Tryz.results112,go_sem,q0,q1,q2,q3,q4,q5,q6,q7,q8,q9,q10,q11,q12,z0,z1,z2,z3,z4,z5,z6,z7,z8,z9,z10,z11,z12]) rfl (AgRes.mk (o:=g) (p:=⟨pa,pc,na,nc,ea,ec,ra,rc⟩) rfl ?_ ?_)
  · refine AgO.le (B:=W0.heap.size) ?_ (by omega)
    repeat (refine AgO.below ?_ (by omega) _)
    exact ⟨HO1.out.1,HO1.out.2.1,HO1.out.2.2,⟨rfl,HO2.out.1⟩,⟨rfl,HO2.out.2⟩⟩
  · repeat (refine Below.setCell ?_ (by simp <;> omega) _)
    exact chain HT0.out HB2.out
end
section
open Go.ChangeShapes Go.WideShapes Go.ChangeAt Go.RowKit Go.PlainAid Go.Lib
set_option maxRecDepth 10000
theorem flC_set:∀ (L:List Ce) (i:Nat) (c c':Ce) (j:Nat) (u:Value),j<15→L[i]?=some c→ceL c'=(ceL c).set j u→(flC L).set (i*15+j) u=flC (L.set i c')
  | [],i,c,c',j,u,hj,h,e=>by simp at h
  | x :: xs,0,c,c',j,u,hj,h,e=>by
    obtain rfl:x=c:=by simpa using h
    rw [flC_cons,List.set_append_left _ _ (by rw [ceL_len];omega),List.set_cons_zero,flC_cons,e,Nat.zero_mul,Nat.zero_add]
  | x :: xs,i+1,c,c',j,u,hj,h,e=>by
    rw [flC_cons,List.set_append_right _ _ (by rw [ceL_len];omega),ceL_len,List.set_cons_succ,flC_cons,← flC_set xs i c c' j u hj (by simpa using h) e,show (i+1)*15+j - 15=i*15+j by omega]
theorem OwnC.put1 {w:World} {B g cp n i j:Nat} {L:List Ce} {c c':Ce} {u:Value} (h:OwnC w B (.slice (some ⟨g,0,none⟩) n cp) L) (hn:L.length=n) (hc:L[i]?=some c) (hj:j<15) (e:ceL c'=(ceL c).set j u):OwnC (w.setCell ⟨g,i*15+j,none⟩ u) B (.slice (some ⟨g,0,none⟩) n cp) (L.set i c'):=by
  subst hn;have q:=(World.ownsRow.stored h (i*15+j) u).1;rw [flC_set L i c c' j u hj hc e] at q
  show World.ownsRow _ _ _ _ _ _ _
  rw [List.length_set];exact q
end
section
open Go.ChangeShapes Go.WideShapes Go.ChangeAt Go.RowKit Go.PlainAid Go.Lib Go.Maps
set_option maxRecDepth 10000
theorem OwnC.putAg {w:World} {B g cp n i:Nat} {L:List Ce} {c:Ce} {o:Ag} {q:Pl} (h0:OwnC w B (.slice (some ⟨g,0,none⟩) n cp) L) (hn:L.length=n) (hc:L[i]?=some c) :
    OwnC (((((((((((((w.setCell ⟨g,i*15+2,none⟩ (.int .i64 o.k)).setCell ⟨g,i*15+3,none⟩ (.int .u64 o.s)).setCell ⟨g,i*15+4,none⟩ (.int .i64 o.h)).setCell ⟨g,i*15+5,none⟩ (.int .u64 o.l)).setCell ⟨g,i*15+6,none⟩ (.int .i64 o.a)).setCell ⟨g,i*15+7,none⟩ (.int .i64 o.t)).setCell ⟨g,i*15+8,none⟩ (.int .u64 o.z)).setCell ⟨g,i*15+9,none⟩ (.slice q.pa o.P.length q.pc)).setCell ⟨g,i*15+10,none⟩ (.slice q.na o.N.length q.nc)).setCell ⟨g,i*15+11,none⟩ (.int .i64 o.x)).setCell ⟨g,i*15+12,none⟩ (.int .u64 o.y)).setCell ⟨g,i*15+13,none⟩ (.slice q.ea o.E.length q.ec)).setCell ⟨g,i*15+14,none⟩ (.slice q.ra o.R.length q.rc)) B (.slice (some ⟨g,0,none⟩) n cp) (L.set i ⟨c.n,c.s,o,q⟩):=by
  have hi:i<L.length:=(List.getElem?_eq_some_iff.1 hc).1;have h1:=OwnC.put1 (j:=2) (c:=(⟨c.n,c.s,⟨c.g.k,c.g.s,c.g.h,c.g.l,c.g.a,c.g.t,c.g.z,c.g.P,c.g.N,c.g.x,c.g.y,c.g.E,c.g.R⟩,⟨c.p.pa,c.p.pc,c.p.na,c.p.nc,c.p.ea,c.p.ec,c.p.ra,c.p.rc⟩⟩:Ce)) (c':=(⟨c.n,c.s,⟨o.k,c.g.s,c.g.h,c.g.l,c.g.a,c.g.t,c.g.z,c.g.P,c.g.N,c.g.x,c.g.y,c.g.E,c.g.R⟩,⟨c.p.pa,c.p.pc,c.p.na,c.p.nc,c.p.ea,c.p.ec,c.p.ra,c.p.rc⟩⟩:Ce)) (u:=.int .i64 o.k) h0 (by simp [hn]) hc (by decide) rfl;have h2:=OwnC.put1 (j:=3) (c:=(⟨c.n,c.s,⟨o.k,c.g.s,c.g.h,c.g.l,c.g.a,c.g.t,c.g.z,c.g.P,c.g.N,c.g.x,c.g.y,c.g.E,c.g.R⟩,⟨c.p.pa,c.p.pc,c.p.na,c.p.nc,c.p.ea,c.p.ec,c.p.ra,c.p.rc⟩⟩:Ce)) (c':=(⟨c.n,c.s,⟨o.k,o.s,c.g.h,c.g.l,c.g.a,c.g.t,c.g.z,c.g.P,c.g.N,c.g.x,c.g.y,c.g.E,c.g.R⟩,⟨c.p.pa,c.p.pc,c.p.na,c.p.nc,c.p.ea,c.p.ec,c.p.ra,c.p.rc⟩⟩:Ce)) (u:=.int .u64 o.s) h1 (by simp [hn]) (List.getElem?_set_self hi) (by decide) rfl;rw [List.set_set] at h2;have h3:=OwnC.put1 (j:=4) (c:=(⟨c.n,c.s,⟨o.k,o.s,c.g.h,c.g.l,c.g.a,c.g.t,c.g.z,c.g.P,c.g.N,c.g.x,c.g.y,c.g.E,c.g.R⟩,⟨c.p.pa,c.p.pc,c.p.na,c.p.nc,c.p.ea,c.p.ec,c.p.ra,c.p.rc⟩⟩:Ce)) (c':=(⟨c.n,c.s,⟨o.k,o.s,o.h,c.g.l,c.g.a,c.g.t,c.g.z,c.g.P,c.g.N,c.g.x,c.g.y,c.g.E,c.g.R⟩,⟨c.p.pa,c.p.pc,c.p.na,c.p.nc,c.p.ea,c.p.ec,c.p.ra,c.p.rc⟩⟩:Ce)) (u:=.int .i64 o.h) h2 (by simp [hn]) (List.getElem?_set_self hi) (by decide) rfl;rw [List.set_set] at h3;have h4:=OwnC.put1 (j:=5) (c:=(⟨c.n,c.s,⟨o.k,o.s,o.h,c.g.l,c.g.a,c.g.t,c.g.z,c.g.P,c.g.N,c.g.x,c.g.y,c.g.E,c.g.R⟩,⟨c.p.pa,c.p.pc,c.p.na,c.p.nc,c.p.ea,c.p.ec,c.p.ra,c.p.rc⟩⟩:Ce)) (c':=(⟨c.n,c.s,⟨o.k,o.s,o.h,o.l,c.g.a,c.g.t,c.g.z,c.g.P,c.g.N,c.g.x,c.g.y,c.g.E,c.g.R⟩,⟨c.p.pa,c.p.pc,c.p.na,c.p.nc,c.p.ea,c.p.ec,c.p.ra,c.p.rc⟩⟩:Ce)) (u:=.int .u64 o.l) h3 (by simp [hn]) (List.getElem?_set_self hi) (by decide) rfl;rw [List.set_set] at h4;have h5:=OwnC.put1 (j:=6) (c:=(⟨c.n,c.s,⟨o.k,o.s,o.h,o.l,c.g.a,c.g.t,c.g.z,c.g.P,c.g.N,c.g.x,c.g.y,c.g.E,c.g.R⟩,⟨c.p.pa,c.p.pc,c.p.na,c.p.nc,c.p.ea,c.p.ec,c.p.ra,c.p.rc⟩⟩:Ce)) (c':=(⟨c.n,c.s,⟨o.k,o.s,o.h,o.l,o.a,c.g.t,c.g.z,c.g.P,c.g.N,c.g.x,c.g.y,c.g.E,c.g.R⟩,⟨c.p.pa,c.p.pc,c.p.na,c.p.nc,c.p.ea,c.p.ec,c.p.ra,c.p.rc⟩⟩:Ce)) (u:=.int .i64 o.a) h4 (by simp [hn]) (List.getElem?_set_self hi) (by decide) rfl;rw [List.set_set] at h5;have h6:=OwnC.put1 (j:=7) (c:=(⟨c.n,c.s,⟨o.k,o.s,o.h,o.l,o.a,c.g.t,c.g.z,c.g.P,c.g.N,c.g.x,c.g.y,c.g.E,c.g.R⟩,⟨c.p.pa,c.p.pc,c.p.na,c.p.nc,c.p.ea,c.p.ec,c.p.ra,c.p.rc⟩⟩:Ce)) (c':=(⟨c.n,c.s,⟨o.k,o.s,o.h,o.l,o.a,o.t,c.g.z,c.g.P,c.g.N,c.g.x,c.g.y,c.g.E,c.g.R⟩,⟨c.p.pa,c.p.pc,c.p.na,c.p.nc,c.p.ea,c.p.ec,c.p.ra,c.p.rc⟩⟩:Ce)) (u:=.int .i64 o.t) h5 (by simp [hn]) (List.getElem?_set_self hi) (by decide) rfl;rw [List.set_set] at h6;have h7:=OwnC.put1 (j:=8) (c:=(⟨c.n,c.s,⟨o.k,o.s,o.h,o.l,o.a,o.t,c.g.z,c.g.P,c.g.N,c.g.x,c.g.y,c.g.E,c.g.R⟩,⟨c.p.pa,c.p.pc,c.p.na,c.p.nc,c.p.ea,c.p.ec,c.p.ra,c.p.rc⟩⟩:Ce)) (c':=(⟨c.n,c.s,⟨o.k,o.s,o.h,o.l,o.a,o.t,o.z,c.g.P,c.g.N,c.g.x,c.g.y,c.g.E,c.g.R⟩,⟨c.p.pa,c.p.pc,c.p.na,c.p.nc,c.p.ea,c.p.ec,c.p.ra,c.p.rc⟩⟩:Ce)) (u:=.int .u64 o.z) h6 (by simp [hn]) (List.getElem?_set_self hi) (by decide) rfl;rw [List.set_set] at h7;have h8:=OwnC.put1 (j:=9) (c:=(⟨c.n,c.s,⟨o.k,o.s,o.h,o.l,o.a,o.t,o.z,c.g.P,c.g.N,c.g.x,c.g.y,c.g.E,c.g.R⟩,⟨c.p.pa,c.p.pc,c.p.na,c.p.nc,c.p.ea,c.p.ec,c.p.ra,c.p.rc⟩⟩:Ce)) (c':=(⟨c.n,c.s,⟨o.k,o.s,o.h,o.l,o.a,o.t,o.z,o.P,c.g.N,c.g.x,c.g.y,c.g.E,c.g.R⟩,⟨q.pa,q.pc,c.p.na,c.p.nc,c.p.ea,c.p.ec,c.p.ra,c.p.rc⟩⟩:Ce)) (u:=.slice q.pa o.P.length q.pc) h7 (by simp [hn]) (List.getElem?_set_self hi) (by decide) rfl;rw [List.set_set] at h8;have h9:=OwnC.put1 (j:=10) (c:=(⟨c.n,c.s,⟨o.k,o.s,o.h,o.l,o.a,o.t,o.z,o.P,c.g.N,c.g.x,c.g.y,c.g.E,c.g.R⟩,⟨q.pa,q.pc,c.p.na,c.p.nc,c.p.ea,c.p.ec,c.p.ra,c.p.rc⟩⟩:Ce)) (c':=(⟨c.n,c.s,⟨o.k,o.s,o.h,o.l,o.a,o.t,o.z,o.P,o.N,c.g.x,c.g.y,c.g.E,c.g.R⟩,⟨q.pa,q.pc,q.na,q.nc,c.p.ea,c.p.ec,c.p.ra,c.p.rc⟩⟩:Ce)) (u:=.slice q.na o.N.length q.nc) h8 (by simp [hn]) (List.getElem?_set_self hi) (by decide) rfl;rw [List.set_set] at h9;have h10:=OwnC.put1 (j:=11) (c:=(⟨c.n,c.s,⟨o.k,o.s,o.h,o.l,o.a,o.t,o.z,o.P,o.N,c.g.x,c.g.y,c.g.E,c.g.R⟩,⟨q.pa,q.pc,q.na,q.nc,c.p.ea,c.p.ec,c.p.ra,c.p.rc⟩⟩:Ce)) (c':=(⟨c.n,c.s,⟨o.k,o.s,o.h,o.l,o.a,o.t,o.z,o.P,o.N,o.x,c.g.y,c.g.E,c.g.R⟩,⟨q.pa,q.pc,q.na,q.nc,c.p.ea,c.p.ec,c.p.ra,c.p.rc⟩⟩:Ce)) (u:=.int .i64 o.x) h9 (by simp [hn]) (List.getElem?_set_self hi) (by decide) rfl;rw [List.set_set] at h10;have h11:=OwnC.put1 (j:=12) (c:=(⟨c.n,c.s,⟨o.k,o.s,o.h,o.l,o.a,o.t,o.z,o.P,o.N,o.x,c.g.y,c.g.E,c.g.R⟩,⟨q.pa,q.pc,q.na,q.nc,c.p.ea,c.p.ec,c.p.ra,c.p.rc⟩⟩:Ce)) (c':=(⟨c.n,c.s,⟨o.k,o.s,o.h,o.l,o.a,o.t,o.z,o.P,o.N,o.x,o.y,c.g.E,c.g.R⟩,⟨q.pa,q.pc,q.na,q.nc,c.p.ea,c.p.ec,c.p.ra,c.p.rc⟩⟩:Ce)) (u:=.int .u64 o.y) h10 (by simp [hn]) (List.getElem?_set_self hi) (by decide) rfl;rw [List.set_set] at h11;have h12:=OwnC.put1 (j:=13) (c:=(⟨c.n,c.s,⟨o.k,o.s,o.h,o.l,o.a,o.t,o.z,o.P,o.N,o.x,o.y,c.g.E,c.g.R⟩,⟨q.pa,q.pc,q.na,q.nc,c.p.ea,c.p.ec,c.p.ra,c.p.rc⟩⟩:Ce)) (c':=(⟨c.n,c.s,⟨o.k,o.s,o.h,o.l,o.a,o.t,o.z,o.P,o.N,o.x,o.y,o.E,c.g.R⟩,⟨q.pa,q.pc,q.na,q.nc,q.ea,q.ec,c.p.ra,c.p.rc⟩⟩:Ce)) (u:=.slice q.ea o.E.length q.ec) h11 (by simp [hn]) (List.getElem?_set_self hi) (by decide) rfl;rw [List.set_set] at h12;have h13:=OwnC.put1 (j:=14) (c:=(⟨c.n,c.s,⟨o.k,o.s,o.h,o.l,o.a,o.t,o.z,o.P,o.N,o.x,o.y,o.E,c.g.R⟩,⟨q.pa,q.pc,q.na,q.nc,q.ea,q.ec,c.p.ra,c.p.rc⟩⟩:Ce)) (c':=(⟨c.n,c.s,⟨o.k,o.s,o.h,o.l,o.a,o.t,o.z,o.P,o.N,o.x,o.y,o.E,o.R⟩,⟨q.pa,q.pc,q.na,q.nc,q.ea,q.ec,q.ra,q.rc⟩⟩:Ce)) (u:=.slice q.ra o.R.length q.rc) h12 (by simp [hn]) (List.getElem?_set_self hi) (by decide) rfl;rw [List.set_set] at h13;exact h13
theorem grown13 {w:World} {g i:Nat} {o:Ag} {q:Pl}:w.grownBy (((((((((((((w.setCell ⟨g,i*15+2,none⟩ (.int .i64 o.k)).setCell ⟨g,i*15+3,none⟩ (.int .u64 o.s)).setCell ⟨g,i*15+4,none⟩ (.int .i64 o.h)).setCell ⟨g,i*15+5,none⟩ (.int .u64 o.l)).setCell ⟨g,i*15+6,none⟩ (.int .i64 o.a)).setCell ⟨g,i*15+7,none⟩ (.int .i64 o.t)).setCell ⟨g,i*15+8,none⟩ (.int .u64 o.z)).setCell ⟨g,i*15+9,none⟩ (.slice q.pa o.P.length q.pc)).setCell ⟨g,i*15+10,none⟩ (.slice q.na o.N.length q.nc)).setCell ⟨g,i*15+11,none⟩ (.int .i64 o.x)).setCell ⟨g,i*15+12,none⟩ (.int .u64 o.y)).setCell ⟨g,i*15+13,none⟩ (.slice q.ea o.E.length q.ec)).setCell ⟨g,i*15+14,none⟩ (.slice q.ra o.R.length q.rc)) (some g):=
  ((((((((((((grown_one _ _ _ _).trans (grown_one _ _ _ _)).trans (grown_one _ _ _ _)).trans (grown_one _ _ _ _)).trans (grown_one _ _ _ _)).trans (grown_one _ _ _ _)).trans (grown_one _ _ _ _)).trans (grown_one _ _ _ _)).trans (grown_one _ _ _ _)).trans (grown_one _ _ _ _)).trans (grown_one _ _ _ _)).trans (grown_one _ _ _ _)).trans (grown_one _ _ _ _)
theorem set_parts {L:List Ce} {i:Nat} {c c':Ce} (hc:L[i]?=some c):L.set i c'=L.take i ++ c' :: L.drop (i+1)∧L=L.take i ++ c :: L.drop (i+1):=by
  obtain ⟨hi,e⟩:=List.getElem?_eq_some_iff.1 hc;constructor
  · rw [List.set_eq_take_append_cons_drop,if_pos hi]
  · rw [← e,← List.drop_eq_getElem_cons hi,List.take_append_drop]
end
end Go.Proofs.YtmjogablacnlgaaGreatDoor
