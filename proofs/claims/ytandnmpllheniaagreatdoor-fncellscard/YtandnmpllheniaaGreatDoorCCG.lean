/-
 Parts.
-/
import Derived.Test.YtandnmpllheniaaGreatDoorCCC
import Derived.Sort.Grow
import Derived.Deep.Draws
set_option linter.all false
set_option maxHeartbeats 4000000
namespace Go.Proofs.YtandnmpllheniaaGreatDoor
open Go.ChangeShapes Go.WideShapes Go.ChangeAt Go.RowKit Go.PlainAid Go.Lib
set_option maxRecDepth 10000
structure Grw (w w':World):Prop where
  b:Below w.heap.size w w'
  d:w.drawn<=w'.drawn
theorem Grw.to {w w':World} (h:Grw w w'):∃ q os',w'=Sort.grow (w.drewN q) os':=by
  obtain ⟨hb,hd⟩:=h;refine ⟨w'.drawn - w.drawn,w'.heap.extract w.heap.size w'.heap.size,?_⟩;have h1:=hb.os;have h2:=hb.tape;have h3:=hb.output;have h4:=hb.size
  have h5:w'.heap=w.heap ++ w'.heap.extract w.heap.size w'.heap.size:=by
    apply Array.ext_getElem?;intro i;by_cases hi:i<w.heap.size
    · rw [Array.getElem?_append_left hi];exact hb.block i hi
    · rw [Array.getElem?_append_right (by omega)]
      by_cases hj:i<w'.heap.size
      · have e:w.heap.size+(i - w.heap.size)=i:=by omega
        rw [Array.getElem?_extract_of_lt (by omega),Array.getElem?_eq_getElem hj];simp only [e]
      · rw [Array.getElem?_eq_none (by omega),Array.getElem?_eq_none (by simp;omega)]
  obtain ⟨hp,tp,dr,os,ou⟩:=w;obtain ⟨aa,ad,ac,os',ab⟩:=w';simp only at h1 h2 h3 h4 h5 hd;unfold Sort.grow World.drewN;simp only [World.mk.injEq];exact ⟨h5,h2,by omega,h1,h3⟩
theorem QlA (c:Ce) (w:World):Calls Tryz.prog 53 #[.agg (Qap c)] w fun e w'=>e=.returned (.agg #[.int .i64 c.n,.string c.s])/\Grw w w':=by
  go_enter Tryz.func53,Tryz.ntmps53;go_wp2;refine bodyPost_ret (v:=.agg #[.int .i64 c.n,.string c.s]) (by simp [results,Tryz.results53,go_sem]) rfl ⟨rfl,?_,?_⟩
  · first
    | exact ((Below.refl _ _).alloc (Nat.le_refl _) _).alloc (by simp) _
    | (repeat (refine Below.setCell ?_ (by simp) _)
       exact ((Below.refl _ _).alloc (Nat.le_refl _) _).alloc (by simp) _)
  · exact ZZa _
theorem Qhv (n:Int) (s:ByteArray) (n':Int) (s':ByteArray) (w:World) :
    Calls Tryz.prog 109 #[.agg #[.int .i64 n,.string s],.agg #[.int .i64 n',.string s']] w fun e w'=>e=.returned (.int .i64 (QnC n s n' s'))/\Grw w w':=by
  have ac:Hid (∀ o o',Below w.heap.size w ((w.alloc o).alloc o')):=fun o o'=>((Below.refl _ _).alloc (Nat.le_refl _) o).alloc (by simp) o'
  have HN:Hid (∀ T,((w.alloc (.cells #[.int .i64 n,.string s] T)).alloc (.cells #[.int .i64 n',.string s'] T)).heap[w.heap.size]?=some (.cells #[.int .i64 n,.string s] T (0,0))/\((w.alloc (.cells #[.int .i64 n,.string s] T)).alloc (.cells #[.int .i64 n',.string s'] T)).heap[w.heap.size+1]?=some (.cells #[.int .i64 n',.string s'] T (0,0))):=fun T=>by
    have k0:=ZZk w (.cells #[.int .i64 n,.string s] T);have k1:=ZZk (w.alloc (.cells #[.int .i64 n,.string s] T)) (.cells #[.int .i64 n',.string s'] T);simp only [World.size_alloc] at k1;exact ⟨(((Below.refl (w.alloc (.cells #[.int .i64 n,.string s] T)).heap.size (w.alloc (.cells #[.int .i64 n,.string s] T))).alloc (Nat.le_refl _) (.cells #[.int .i64 n',.string s'] T)).block _ (by simp)).trans k0,k1⟩
  go_enter Tryz.func109,Tryz.ntmps109;go_wp2_with fail;have HR:=Qaa (HN.out 85);have af:=Qaa (ac.out (.cells #[.int .i64 n,.string s] 85) (.cells #[.int .i64 n',.string s'] 85));have ae:((w.alloc (.cells #[.int .i64 n,.string s] 85)).alloc (.cells #[.int .i64 n',.string s'] 85)).heap.size=w.heap.size+1+1:=by simp
  have ad:w.drawn<=((w.alloc (.cells #[.int .i64 n,.string s] 85)).alloc (.cells #[.int .i64 n',.string s'] 85)).drawn:=ZZa _;have ag:=Qaa ad;clear ad;generalize (w.alloc (.cells #[.int .i64 n,.string s] 85)).alloc (.cells #[.int .i64 n',.string s'] 85)=W0 at HR af ag ae ⊢;clear HN ac;have R0:(fun W=>W.heap[w.heap.size]?=some (.cells #[.int .i64 n,.string s] 85 (0,0))/\W.heap[w.heap.size+1]?=some (.cells #[.int .i64 n',.string s'] 85 (0,0))) W0.drew:=HR.out;refine Qaj (fun W=>W.heap[w.heap.size]?=some (.cells #[.int .i64 n,.string s] 85 (0,0))/\W.heap[w.heap.size+1]?=some (.cells #[.int .i64 n',.string s'] 85 (0,0))) 12 (by kernel_rfl) ?_;refine tkL 0 (.pointer (some ⟨w.heap.size,0,none⟩)) R0 (fun W hW=>?_) ?_
  · have x0:=Qay hW.1 0 rfl
    have x1:=Qad hW.1 1 rfl;have y0:=Qad hW.2 0 rfl;have y1:=Qad hW.2 1 rfl;clear hW;go_simp
  refine tkL 1 (.int .i64 n) R0 (fun W hW=>?_) ?_
  · have x0:=Qay hW.1 0 rfl
    have x1:=Qad hW.1 1 rfl;have y0:=Qad hW.2 0 rfl;have y1:=Qad hW.2 1 rfl;clear hW;go_simp
  refine tkL 2 (.pointer (some ⟨w.heap.size+1,0,none⟩)) R0 (fun W hW=>?_) ?_
  · have x0:=Qay hW.1 0 rfl
    have x1:=Qad hW.1 1 rfl;have y0:=Qad hW.2 0 rfl;have y1:=Qad hW.2 1 rfl;clear hW;go_simp
  simp only [sX];refine tkL 3 (.int .i64 n') R0 (fun W hW=>?_) ?_
  · have x0:=Qay hW.1 0 rfl
    have x1:=Qad hW.1 1 rfl;have y0:=Qad hW.2 0 rfl;have y1:=Qad hW.2 1 rfl;clear hW;go_simp
  refine tkL 5 (.pointer (some ⟨w.heap.size,1,none⟩)) R0 (fun W hW=>?_) ?_
  · have x0:=Qay hW.1 0 rfl
    have x1:=Qad hW.1 1 rfl;have y0:=Qad hW.2 0 rfl;have y1:=Qad hW.2 1 rfl;clear hW;go_simp
  refine tkL 6 (.string s) R0 (fun W hW=>?_) ?_
  · have x0:=Qay hW.1 0 rfl
    have x1:=Qad hW.1 1 rfl;have y0:=Qad hW.2 0 rfl;have y1:=Qad hW.2 1 rfl;clear hW;go_simp
  simp only [sX];refine tkL 7 (.pointer (some ⟨w.heap.size+1,1,none⟩)) R0 (fun W hW=>?_) ?_
  · have x0:=Qay hW.1 0 rfl
    have x1:=Qad hW.1 1 rfl;have y0:=Qad hW.2 0 rfl;have y1:=Qad hW.2 1 rfl;clear hW;go_simp
  refine tkL 8 (.string s') R0 (fun W hW=>?_) ?_
  · have x0:=Qay hW.1 0 rfl
    have x1:=Qad hW.1 1 rfl;have y0:=Qad hW.2 0 rfl;have y1:=Qad hW.2 1 rfl;clear hW;go_simp
  simp only [sX];refine onE 4 fun K hK=>?_;go_simp;refine (QfU n n' _).mono ?_;rintro e wz ⟨rfl,aa⟩;obtain rfl:=aa.symm;dsimp only;refine gK hK R0 ?_
  try simp only [sX]
  refine onE 9 fun K hK=>?_;go_simp;refine (Qjg s s' _).mono ?_;rintro e wz ⟨rfl,aa⟩;obtain rfl:=aa.symm;dsimp only;refine gK hK R0 ?_
  try simp only [sX]
  have k2:=ZZk W0 (.cells #[.int .i64 (QiS n n'),.int .i64 (QkZ s s')] 3);rw [ae] at k2;have k3:(W0.alloc (.cells #[.int .i64 (QiS n n'),.int .i64 (QkZ s s')] 3)).drew.heap[w.heap.size+1+1]?=some (.cells #[.int .i64 (QiS n n'),.int .i64 (QkZ s s')] 3 (0,0)):=k2;have HC:=Qaa (And.intro (Qay k3 0 rfl) (Qay k3 1 rfl));clear k2 k3;have ab:Below W0.heap.size W0 (W0.alloc (.cells #[.int .i64 (QiS n n'),.int .i64 (QkZ s s')] 3)).drew:=((ZZb _ _).alloc (ZZa _) _).drew;have R1:=And.intro ((ab.block w.heap.size (by omega)).trans HR.out.1) ((ab.block (w.heap.size+1) (by omega)).trans HR.out.2);have ah:=Qaa (Qac af ab);clear ab;refine onE 10 fun K hK=>?_;go_simp;refine gK hK R1 ?_
  try simp only [sX]
  refine onE 11 fun K hK=>?_;go_simp;refine (QmH _ _ HC.out.1 HC.out.2).mono ?_;rintro e wz ⟨rfl,aa⟩;obtain rfl:=aa.symm;dsimp only;refine gK hK R1 ?_
  try simp only [sX]
  refine onE 12 fun K hK=>?_;go_simp;refine hK.out _ _ (fun h=>absurd rfl h) ?_
  try simp only [sX]
  refine dnE ?_ _;go_wp2;go_ret;exact ⟨rfl,ah,Nat.le_trans ag (Nat.le_succ _)⟩
theorem QgK {w:World} (c d:Ce) :
    Calls Tryz.prog 65 #[.agg (Qap c),.agg (Qap d)] w fun e w'=>e=.returned (.int .i64 (QnC c.n c.s d.n d.s))/\Grw w w':=by
  have ah:Hid (Below w.heap.size w ((w.alloc (.cells (Qap c) 51)).alloc (.cells (Qap d) 51))):=((Below.refl _ _).alloc (Nat.le_refl _) _).alloc (by simp) _;have HC:=Qaa (QnO w 51 c d);go_enter Tryz.func65,Tryz.ntmps65;go_wp2_with fail;have al:Hid (w.drawn<=((w.alloc (.cells (Qap c) 51)).alloc (.cells (Qap d) 51)).drawn):=ZZa w.drawn;generalize (w.alloc (.cells (Qap c) 51)).alloc (.cells (Qap d) 51)=W0 at HC ah al ⊢;have aa:(fun W=>Below W0.heap.size W0 W) W0.drew:=(ZZb _ _).drew;refine Qaj (fun W=>Below W0.heap.size W0 W) 5 (by kernel_rfl) ?_;refine tkL 0 (.agg (Qap c)) aa (fun W hW=>?_) ?_
  · obtain ⟨⟨x0,x1,x2,x3,x4,x5,x6,x7,x8,x9,az,an,av,ap,aA⟩,⟨y0,y1,y2,y3,y4,y5,y6,y7,y8,y9,ay,aw,ar,aq,ax⟩⟩:=HC.out W hW
    clear hW;go_simp
  refine tkL 2 (.agg (Qap d)) aa (fun W hW=>?_) ?_
  · obtain ⟨⟨x0,x1,x2,x3,x4,x5,x6,x7,x8,x9,az,an,av,ap,aA⟩,⟨y0,y1,y2,y3,y4,y5,y6,y7,y8,y9,ay,aw,ar,aq,ax⟩⟩:=HC.out W hW
    clear hW;go_simp
  simp only [sX];refine onE 1 fun K hK=>?_;go_simp;refine (QlA c _).mono ?_;rintro e w1 ⟨rfl,ag,ak⟩;have af:Hid (Below W0.heap.size W0 w1):=(aa:Below W0.heap.size W0 W0.drew).trans (ag.mono (ZZa _));have am:Hid (w.drawn<=w1.drawn):=Nat.le_trans al (Nat.le_trans (Nat.le_succ _) ak);clear ag ak;dsimp only;refine gK hK af.out ?_
  try simp only [sX]
  refine onE 3 fun K hK=>?_;go_simp;refine (QlA d _).mono ?_;rintro e w2 ⟨rfl,ai,ac⟩;have ad:Hid (Below W0.heap.size W0 w2):=Qac af ai;have ao:Hid (w.drawn<=w2.drawn):=Nat.le_trans am ac;clear ai ac;dsimp only;refine gK hK ad.out ?_
  try simp only [sX]
  refine onE 4 fun K hK=>?_;go_simp;refine (Qhv c.n c.s d.n d.s _).mono ?_;rintro e w3 ⟨rfl,ab,ae⟩;have aj:Hid (Below W0.heap.size W0 w3):=Qac ad ab;have au:Hid (w.drawn<=w3.drawn):=Nat.le_trans ao ae;clear ab ae;dsimp only;refine gK hK aj.out ?_
  try simp only [sX]
  refine onE 5 fun K hK=>?_;go_simp;refine hK.out _ _ (fun h=>absurd rfl h) ?_
  try simp only [sX]
  refine dnE ?_ _;go_wp2;go_ret;exact ⟨rfl,Qac ah aj,au⟩
end Go.Proofs.YtandnmpllheniaaGreatDoor
