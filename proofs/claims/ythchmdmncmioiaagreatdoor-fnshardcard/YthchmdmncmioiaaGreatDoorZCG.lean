/-
  The comparer of cells, as the sort wants it: it lays new blocks and draws, nothing else.
-/
import Derived.Test.YthchmdmncmioiaaGreatDoorZCC
import Derived.Sort.Grow
import Derived.Deep.Draws
set_option maxHeartbeats 4000000
namespace Go.Proofs.YthchmdmncmioiaaGreatDoor
set_option linter.unusedVariables false
set_option linter.unusedSimpArgs false
open Go.ChangeShapes Go.WideShapes Go.ChangeAt Go.RowKit Go.PlainAid Go.Lib
set_option maxRecDepth 10000
structure Grw (w w':World):Prop where
  b:Below w.heap.size w w'
  d:w.drawn<=w'.drawn
theorem Grw.to {w w':World} (h:Grw w w'):∃ q os',w'=Sort.grow (w.drewN q) os':=by
  obtain ⟨hb,hd⟩:=h;refine ⟨w'.drawn - w.drawn,w'.heap.extract w.heap.size w'.heap.size,?_⟩;have h1:=hb.os;have h2:=hb.tape;have h3:=hb.output;have h4:=hb.size
  have h5:w'.heap=w.heap ++ w'.heap.extract w.heap.size w'.heap.size:=by
    apply Array.ext_getElem?;intro i;by_cases hi:i<w.heap.size
    · rw [Array.getElem?_append_left hi];exact hb.block i hi
    · rw [Array.getElem?_append_right (by omega)]
      by_cases hj:i<w'.heap.size
      · have e:w.heap.size+(i - w.heap.size)=i:=by omega
        rw [Array.getElem?_extract_of_lt (by omega),Array.getElem?_eq_getElem hj];simp only [e]
      · rw [Array.getElem?_eq_none (by omega),Array.getElem?_eq_none (by simp;omega)]
  obtain ⟨hp,tp,dr,os,ou⟩:=w;obtain ⟨hp',tp',dr',os',ou'⟩:=w';simp only at h1 h2 h3 h4 h5 hd;unfold Sort.grow World.drewN;simp only [World.mk.injEq];exact ⟨h5,h2,by omega,h1,h3⟩
theorem Qj5 (c:Ce) (w:World):Calls Tryz.prog 53 #[.agg (Qao c)] w fun e w'=>e=.returned (.agg #[.int .i64 c.n,.string c.s])/\Grw w w':=by
  go_enter Tryz.func53,Tryz.ntmps53;go_wp2;refine bodyPost_ret (v:=.agg #[.int .i64 c.n,.string c.s]) (by simp [results,Tryz.results53,go_sem]) rfl ⟨rfl,?_,?_⟩
  · first
    | exact ((Below.refl _ _).alloc (Nat.le_refl _) _).alloc (by simp) _
    | (repeat (refine Below.setCell ?_ (by simp) _)
       exact ((Below.refl _ _).alloc (Nat.le_refl _) _).alloc (by simp) _)
  · exact ZZa _
theorem QgI (n:Int) (s:ByteArray) (n':Int) (s':ByteArray) (w:World) :
    Calls Tryz.prog 109 #[.agg #[.int .i64 n,.string s],.agg #[.int .i64 n',.string s']] w fun e w'=>e=.returned (.int .i64 (QnF n s n' s'))/\Grw w w':=by
  have HB0:Hid (∀ o o',Below w.heap.size w ((w.alloc o).alloc o')):=fun o o'=>((Below.refl _ _).alloc (Nat.le_refl _) o).alloc (by simp) o'
  have HN:Hid (∀ T,((w.alloc (.cells #[.int .i64 n,.string s] T)).alloc (.cells #[.int .i64 n',.string s'] T)).heap[w.heap.size]?=some (.cells #[.int .i64 n,.string s] T (0,0))/\((w.alloc (.cells #[.int .i64 n,.string s] T)).alloc (.cells #[.int .i64 n',.string s'] T)).heap[w.heap.size+1]?=some (.cells #[.int .i64 n',.string s'] T (0,0))):=fun T=>by
    have k0:=ZZk w (.cells #[.int .i64 n,.string s] T);have k1:=ZZk (w.alloc (.cells #[.int .i64 n,.string s] T)) (.cells #[.int .i64 n',.string s'] T);simp only [World.size_alloc] at k1;exact ⟨(((Below.refl (w.alloc (.cells #[.int .i64 n,.string s] T)).heap.size (w.alloc (.cells #[.int .i64 n,.string s] T))).alloc (Nat.le_refl _) (.cells #[.int .i64 n',.string s'] T)).block _ (by simp)).trans k0,k1⟩
  go_enter Tryz.func109,Tryz.ntmps109;go_wp2_with fail;have HR:=Qaa (HN.out 85);have HB1:=Qaa (HB0.out (.cells #[.int .i64 n,.string s] 85) (.cells #[.int .i64 n',.string s'] 85));have hsz:((w.alloc (.cells #[.int .i64 n,.string s] 85)).alloc (.cells #[.int .i64 n',.string s'] 85)).heap.size=w.heap.size+1+1:=by simp
  have hd0:w.drawn<=((w.alloc (.cells #[.int .i64 n,.string s] 85)).alloc (.cells #[.int .i64 n',.string s'] 85)).drawn:=ZZa _;have HD0:=Qaa hd0;clear hd0;generalize (w.alloc (.cells #[.int .i64 n,.string s] 85)).alloc (.cells #[.int .i64 n',.string s'] 85)=W0 at HR HB1 HD0 hsz ⊢;clear HN HB0;have R0:(fun W=>W.heap[w.heap.size]?=some (.cells #[.int .i64 n,.string s] 85 (0,0))/\W.heap[w.heap.size+1]?=some (.cells #[.int .i64 n',.string s'] 85 (0,0))) W0.drew:=HR.out;refine Qaj (fun W=>W.heap[w.heap.size]?=some (.cells #[.int .i64 n,.string s] 85 (0,0))/\W.heap[w.heap.size+1]?=some (.cells #[.int .i64 n',.string s'] 85 (0,0))) 12 (by kernel_rfl) ?_;refine tkL (i:=0) (v:=.pointer (some ⟨w.heap.size,0,none⟩)) rfl rfl R0 (fun W hW=>?_) ?_
  · have x0:=Qaq hW.1 0 rfl
    have x1:=Qac hW.1 1 rfl;have y0:=Qac hW.2 0 rfl;have y1:=Qac hW.2 1 rfl;clear hW;go_simp
  refine tkL (i:=1) (v:=.int .i64 n) rfl rfl R0 (fun W hW=>?_) ?_
  · have x0:=Qaq hW.1 0 rfl
    have x1:=Qac hW.1 1 rfl;have y0:=Qac hW.2 0 rfl;have y1:=Qac hW.2 1 rfl;clear hW;go_simp
  refine tkL (i:=2) (v:=.pointer (some ⟨w.heap.size+1,0,none⟩)) rfl rfl R0 (fun W hW=>?_) ?_
  · have x0:=Qaq hW.1 0 rfl
    have x1:=Qac hW.1 1 rfl;have y0:=Qac hW.2 0 rfl;have y1:=Qac hW.2 1 rfl;clear hW;go_simp
  simp only [sA,sB,sC];refine tkL (i:=3) (v:=.int .i64 n') rfl rfl R0 (fun W hW=>?_) ?_
  · have x0:=Qaq hW.1 0 rfl
    have x1:=Qac hW.1 1 rfl;have y0:=Qac hW.2 0 rfl;have y1:=Qac hW.2 1 rfl;clear hW;go_simp
  refine tkL (i:=5) (v:=.pointer (some ⟨w.heap.size,1,none⟩)) rfl rfl R0 (fun W hW=>?_) ?_
  · have x0:=Qaq hW.1 0 rfl
    have x1:=Qac hW.1 1 rfl;have y0:=Qac hW.2 0 rfl;have y1:=Qac hW.2 1 rfl;clear hW;go_simp
  refine tkL (i:=6) (v:=.string s) rfl rfl R0 (fun W hW=>?_) ?_
  · have x0:=Qaq hW.1 0 rfl
    have x1:=Qac hW.1 1 rfl;have y0:=Qac hW.2 0 rfl;have y1:=Qac hW.2 1 rfl;clear hW;go_simp
  simp only [sA,sB,sC];refine tkL (i:=7) (v:=.pointer (some ⟨w.heap.size+1,1,none⟩)) rfl rfl R0 (fun W hW=>?_) ?_
  · have x0:=Qaq hW.1 0 rfl
    have x1:=Qac hW.1 1 rfl;have y0:=Qac hW.2 0 rfl;have y1:=Qac hW.2 1 rfl;clear hW;go_simp
  refine tkL (i:=8) (v:=.string s') rfl rfl R0 (fun W hW=>?_) ?_
  · have x0:=Qaq hW.1 0 rfl
    have x1:=Qac hW.1 1 rfl;have y0:=Qac hW.2 0 rfl;have y1:=Qac hW.2 1 rfl;clear hW;go_simp
  simp only [sA,sB,sC];refine onE (i:=4) rfl (fun K hK=>?_);go_simp;refine (Qfs n n' _).mono ?_;rintro e wz ⟨rfl,hwz⟩;obtain rfl:=hwz.symm;dsimp only;refine hK.out _ _ (fun _=>R0) ?_;clear hK K
  try simp only [Act.put,sA,sB,sC]
  refine onE (i:=9) rfl (fun K hK=>?_);go_simp;refine (Qi7 s s' _).mono ?_;rintro e wz ⟨rfl,hwz⟩;obtain rfl:=hwz.symm;dsimp only;refine hK.out _ _ (fun _=>R0) ?_;clear hK K
  try simp only [Act.put,sA,sB,sC]
  have k2:=ZZk W0 (.cells #[.int .i64 (Qie n n'),.int .i64 (Qlc s s')] 3);rw [hsz] at k2;have k3:(W0.alloc (.cells #[.int .i64 (Qie n n'),.int .i64 (Qlc s s')] 3)).drew.heap[w.heap.size+1+1]?=some (.cells #[.int .i64 (Qie n n'),.int .i64 (Qlc s s')] 3 (0,0)):=k2;have HC:=Qaa (And.intro (Qaq k3 0 rfl) (Qaq k3 1 rfl));clear k2 k3;have hA1:Below W0.heap.size W0 (W0.alloc (.cells #[.int .i64 (Qie n n'),.int .i64 (Qlc s s')] 3)).drew:=((ZZb _ _).alloc (ZZa _) _).drew;have R1:=And.intro ((hA1.block w.heap.size (by omega)).trans HR.out.1) ((hA1.block (w.heap.size+1) (by omega)).trans HR.out.2);have HT1:=Qaa (Qad HB1.out hA1);clear hA1;refine onE (i:=10) rfl (fun K hK=>?_);go_simp;refine hK.out _ _ (fun _=>R1) ?_;clear hK K
  try simp only [Act.put,sA,sB,sC]
  refine onE (i:=11) rfl (fun K hK=>?_);go_simp;refine (Qmf _ _ HC.out.1 HC.out.2).mono ?_;rintro e wz ⟨rfl,hwz⟩;obtain rfl:=hwz.symm;dsimp only;refine hK.out _ _ (fun _=>R1) ?_;clear hK K
  try simp only [Act.put,sA,sB,sC]
  refine onE (i:=12) rfl (fun K hK=>?_);go_simp;refine hK.out _ _ (fun h=>absurd rfl h) ?_;clear hK K
  try simp only [Act.put,sA,sB,sC]
  refine Qar (by kernel_rfl) ?_ _;go_wp2;go_ret;exact ⟨rfl,HT1.out,Nat.le_trans HD0.out (Nat.le_succ _)⟩
theorem Qgk {w:World} (c d:Ce) :
    Calls Tryz.prog 65 #[.agg (Qao c),.agg (Qao d)] w fun e w'=>e=.returned (.int .i64 (QnF c.n c.s d.n d.s))/\Grw w w':=by
  have HB0:Hid (Below w.heap.size w ((w.alloc (.cells (Qao c) 51)).alloc (.cells (Qao d) 51))):=((Below.refl _ _).alloc (Nat.le_refl _) _).alloc (by simp) _;have HC:=Qaa (Qph w 51 c d);go_enter Tryz.func65,Tryz.ntmps65;go_wp2_with fail;have HD0:Hid (w.drawn<=((w.alloc (.cells (Qao c) 51)).alloc (.cells (Qao d) 51)).drawn):=ZZa w.drawn;generalize (w.alloc (.cells (Qao c) 51)).alloc (.cells (Qao d) 51)=W0 at HC HB0 HD0 ⊢;have HS0:(fun W=>Below W0.heap.size W0 W) W0.drew:=(ZZb _ _).drew;refine Qaj (fun W=>Below W0.heap.size W0 W) 5 (by kernel_rfl) ?_;refine tkL (i:=0) (v:=.agg (Qao c)) rfl rfl HS0 (fun W hW=>?_) ?_
  · obtain ⟨⟨x0,x1,x2,x3,x4,x5,x6,x7,x8,x9,x10,x11,x12,x13,x14⟩,⟨y0,y1,y2,y3,y4,y5,y6,y7,y8,y9,y10,y11,y12,y13,y14⟩⟩:=HC.out W hW
    clear hW;go_simp
  refine tkL (i:=2) (v:=.agg (Qao d)) rfl rfl HS0 (fun W hW=>?_) ?_
  · obtain ⟨⟨x0,x1,x2,x3,x4,x5,x6,x7,x8,x9,x10,x11,x12,x13,x14⟩,⟨y0,y1,y2,y3,y4,y5,y6,y7,y8,y9,y10,y11,y12,y13,y14⟩⟩:=HC.out W hW
    clear hW;go_simp
  simp only [sA,sB,sC];refine onE (i:=1) rfl (fun K hK=>?_);go_simp;refine (Qj5 c _).mono ?_;rintro e w1 ⟨rfl,hb1,hd1⟩;have HB1:Hid (Below W0.heap.size W0 w1):=(HS0:Below W0.heap.size W0 W0.drew).trans (hb1.mono (ZZa _));have HD1:Hid (w.drawn<=w1.drawn):=Nat.le_trans HD0.out (Nat.le_trans (Nat.le_succ _) hd1);clear hb1 hd1;dsimp only;refine hK.out _ _ (fun _=>HB1.out) ?_;clear hK K
  try simp only [Act.put,sA,sB,sC]
  refine onE (i:=3) rfl (fun K hK=>?_);go_simp;refine (Qj5 d _).mono ?_;rintro e w2 ⟨rfl,hb2,hd2⟩;have HB2:Hid (Below W0.heap.size W0 w2):=Qad HB1.out hb2;have HD2:Hid (w.drawn<=w2.drawn):=Nat.le_trans HD1.out hd2;clear hb2 hd2;dsimp only;refine hK.out _ _ (fun _=>HB2.out) ?_;clear hK K
  try simp only [Act.put,sA,sB,sC]
  refine onE (i:=4) rfl (fun K hK=>?_);go_simp;refine (QgI c.n c.s d.n d.s _).mono ?_;rintro e w3 ⟨rfl,hb3,hd3⟩;have HB3:Hid (Below W0.heap.size W0 w3):=Qad HB2.out hb3;have HD3:Hid (w.drawn<=w3.drawn):=Nat.le_trans HD2.out hd3;clear hb3 hd3;dsimp only;refine hK.out _ _ (fun _=>HB3.out) ?_;clear hK K
  try simp only [Act.put,sA,sB,sC]
  refine onE (i:=5) rfl (fun K hK=>?_);go_simp;refine hK.out _ _ (fun h=>absurd rfl h) ?_;clear hK K
  try simp only [Act.put,sA,sB,sC]
  refine Qar (by kernel_rfl) ?_ _;go_wp2;go_ret;exact ⟨rfl,Qad HB0.out HB3.out,HD3.out⟩
end Go.Proofs.YthchmdmncmioiaaGreatDoor
