/-
 Drawn arguments of ShardPut, ShardTake, CellsMerge.
-/
import Derived.Test.YthchmdmncmioiaaGreatDoorZSA
import Derived.Test.YthchmdmncmioiaaGreatDoorZRE
set_option maxHeartbeats 8000000
namespace Go.Proofs.YthchmdmncmioiaaGreatDoor
set_option linter.unusedVariables false
set_option linter.unusedSimpArgs false
open Go.ChangeShapes Go.WideShapes Go.ChangeAt Go.RowKit Go.PlainAid Go.Lib
set_option maxRecDepth 10000
theorem QlR {w w':World} {c s:Nat} {b:Obj} (h:w.heap[c]?=some b) (hg:w.grownBy w' (some s)) (hn:c≠s):w'.heap[c]?=some b:=
 (hg.block c (ZZc.1 h).1 (fun e=>by cases e;exact hn rfl)).trans h
structure DBx (W w0:World) (K:Nat) (ao:Option Addr) (ln cap:Nat) (wr:World) (c:Nat) (nm:ByteArray) (ax:Option Addr) (n cp:Nat) (L:List Ce):Prop where
 f:DSf W w0 K ao ln cap K wr nm ax n cp L
 row:wr.heap[c]?=some (.cells #[.string nm,.slice ax n cp] 25 (0,0))
 hc:K<c
 h0:K<w0.heap.size
section
variable {W w0:World} {K:Nat} {ao:Option Addr} {ln cap:Nat} {wr:World} {c:Nat} {nm:ByteArray} {ax:Option Addr} {n cp:Nat} {L:List Ce}
theorem DBx.step (k:DBx W w0 K ao ln cap wr c nm ax n cp L) {w1:World} (hS:Src W K ao ln cap K w1) (hg:wr.grownBy w1 (some K)):DBx W w0 K ao ln cap w1 c nm ax n cp L:=
 ⟨k.f.step hS hg,QlR k.row hg (by have:=k.hc;omega),k.hc,k.h0⟩
theorem DSf.box (k:DSf W w0 K ao ln cap K wr nm ax n cp L):DBx W w0 K ao ln cap (wr.alloc (.cells #[.string nm,.slice ax n cp] 25)) wr.heap.size nm ax n cp L:=by
 have a1:Below wr.heap.size wr (wr.alloc (.cells #[.string nm,.slice ax n cp] 25)):=(ZZb _ _).alloc (ZZa _) _;have h0:=k.lt;have h1:=k.gr.size;exact ⟨k.step (Qa7 k.src a1) ⟨a1.os,a1.tape,a1.output,a1.size,fun j hj _=>a1.block j hj⟩,ZZk wr _,by omega,k.lt⟩
end
structure DCe (w w':World) (ax:Option Addr) (n cp:Nat) (L:List Ce):Prop where
 own:OwnC w' w.heap.size (.slice ax n cp) L
 ag:∀ c∈L,AgO w' w.heap.size c.g c.p
 q:CeS L
 hn:L.length=n
 len:n<=61
theorem DCe.sh {w w':World} {ax:Option Addr} {n cp:Nat} {L:List Ce} (k:DCe w w' ax n cp L):ShI w' ax n L:=
 ⟨k.hn,by have:=k.len;omega,k.q.ok,k.q.sm,k.q.ss,fun c hc=>(k.ag c hc).plgX,OwnC.at k.own (fun c hc=>(k.ag c hc).at)⟩
theorem DCe.cap {w w':World} {ax:Option Addr} {n cp:Nat} {L:List Ce} (k:DCe w w' ax n cp L):n<=cp:=k.own.cap k.hn
theorem Qo9 {w X:World} {k:Nat} {ax:Option Addr} {n cp:Nat} {L:List Ce} (q:OwnC X (w.heap.size+k) (.slice ax n cp) L/\∀ d∈L,AgO X (w.heap.size+k) d.g d.p) (s:CeS L) (hn:L.length=n) (len:n<=61):DCe w X ax n cp L:=⟨q.1.le (by omega),fun d hd=>(q.2 d hd).le (by omega),s,hn,len⟩
theorem Qds {w:World} {B r j:Nat} {v:Value} {L:List Ce} (hr:r<B) (u:Value) (h:OwnC w B v L/\∀ c∈L,AgO w B c.g c.p):OwnC (w.setCell ⟨r,j,none⟩ u) B v L/\∀ c∈L,AgO (w.setCell ⟨r,j,none⟩ u) B c.g c.p:=
 ⟨h.1.setNe hr u,fun c hc=>(h.2 c hc).below hr u⟩
theorem QcA {p:Prop} (h:p):p:=h
theorem QgH {w:World} {ln cap:Nat} {ao:Option Addr} (hc:Qbr w w.heap.size ao ln) :
  Calls Tryz.prog 7 #[.slice ao ln cap] w fun e w'=>∃ (nm:ByteArray) (ax:Option Addr) (n cp:Nat) (L:List Ce) (win:Int) (x:Sx),e=.returned (.tuple #[.agg #[.string nm,.slice ax n cp],.int .i64 win,.agg (Qax x)])/\DCe w w' ax n cp L/\nm.size<=1/\x.Ok/\Below w.heap.size w w':=by
 have a0:Below w.heap.size w ((w.alloc (.cells #[.string ⟨#[]⟩,.slice none 0 0] 25)).alloc (.cells #[.int .i64 0,.string ⟨#[]⟩,.int .i64 0,.string ⟨#[]⟩,.int .u64 0,.bool false,.int .i64 0] 28)):=((Below.refl _ _).alloc (Nat.le_refl _) _).alloc (by simp) _;have HC:=Qaa (Qf4 (B:=((w.alloc (.cells #[.string ⟨#[]⟩,.slice none 0 0] 25)).alloc (.cells #[.int .i64 0,.string ⟨#[]⟩,.int .i64 0,.string ⟨#[]⟩,.int .u64 0,.bool false,.int .i64 0] 28)).heap.size) hc a0 (ZZa _) a0.size);have hr1:((w.alloc (.cells #[.string ⟨#[]⟩,.slice none 0 0] 25)).alloc (.cells #[.int .i64 0,.string ⟨#[]⟩,.int .i64 0,.string ⟨#[]⟩,.int .u64 0,.bool false,.int .i64 0] 28)).heap[w.heap.size]?=some (.cells #[.string ⟨#[]⟩,.slice none 0 0] 25 (0,0)):=((Below.refl (w.alloc (.cells #[.string ⟨#[]⟩,.slice none 0 0] 25)).heap.size _).alloc (Nat.le_refl _) _).block w.heap.size (by simp) |>.trans (heap_alloc_new w _)
 have hr2:((w.alloc (.cells #[.string ⟨#[]⟩,.slice none 0 0] 25)).alloc (.cells #[.int .i64 0,.string ⟨#[]⟩,.int .i64 0,.string ⟨#[]⟩,.int .u64 0,.bool false,.int .i64 0] 28)).heap[w.heap.size+1]?=some (.cells #[.int .i64 0,.string ⟨#[]⟩,.int .i64 0,.string ⟨#[]⟩,.int .u64 0,.bool false,.int .i64 0] 28 (0,0)):=by
  have:=ZZk (w.alloc (.cells #[.string ⟨#[]⟩,.slice none 0 0] 25)) (.cells #[.int .i64 0,.string ⟨#[]⟩,.int .i64 0,.string ⟨#[]⟩,.int .u64 0,.bool false,.int .i64 0] 28);have e:(w.alloc (.cells #[.string ⟨#[]⟩,.slice none 0 0] 25)).heap.size=w.heap.size+1:=by simp
  rw [e] at this;exact this
 have HR1:=Qaa hr1;have HR2:=Qaa hr2;have HT0:=Qaa a0;have hz0:((w.alloc (.cells #[.string ⟨#[]⟩,.slice none 0 0] 25)).alloc (.cells #[.int .i64 0,.string ⟨#[]⟩,.int .i64 0,.string ⟨#[]⟩,.int .u64 0,.bool false,.int .i64 0] 28)).heap.size=w.heap.size+2:=by simp
 have HZ0:=Qaa hz0;clear hc a0 hz0 hr1 hr2;go_enter Tryz.func7,Tryz.ntmps7;go_wp2_with fail;generalize ((w.alloc (.cells #[.string ⟨#[]⟩,.slice none 0 0] 25)).alloc (.cells #[.int .i64 0,.string ⟨#[]⟩,.int .i64 0,.string ⟨#[]⟩,.int .u64 0,.bool false,.int .i64 0] 28))=W0 at HC HR1 HR2 HT0 HZ0 ⊢;refine (QfZ (K:=W0.heap.size) _ _ _ _ rfl HC.out).mono ?_;rintro e w1 ⟨rfl,hS1⟩;have HS1:=Qaa hS1;clear hS1;go_wp2_with fail;refine (Qg6 HC.out HS1.out).mono ?_;rintro e w2 ⟨nm,ax,n,cp,L,rfl,hf⟩;have HB2:=Qaa hf.box;clear hf HS1;go_wp2_with fail;generalize w2.alloc (.cells #[.string nm,.slice ax n cp] 25)=W2 at HB2 ⊢;generalize w2.heap.size=c at HB2 ⊢;refine (c_n HC.out HB2.out.f.src 4 (by omega)).mono ?_;rintro e w3 ⟨win0,rfl,_,_,_,hS3,hg3⟩;have HB3:=Qaa (HB2.out.step hS3 hg3);clear hS3 hg3 HB2;go_wp2_with fail;refine (Qh1 HC.out HB3.out.f.src 20 (by omega)).mono ?_;rintro e w4 ⟨bb,rfl,hS4,hg4⟩;have HB4:=Qaa (HB3.out.step hS4 hg4);clear hS4 hg4 HB3;go_upto_if 15 with fail
 go_cut [7] (fun kv w'=>∃ win:Int,kv=.int .i64 win/\Hid (DBx W0 w1 W0.heap.size ao ln cap w' c nm ax n cp L))
 case first=>
  cases bb with
  | false=>
   go_wp2;go_meet;exact ⟨win0,rfl,HB4⟩
  | true=>
   go_wp2_with fail;refine (Qpp HC.out HB4.out.f.src).mono ?_;rintro e w5 ⟨v5,rfl,_,hS5,hg5⟩;have HB5:=Qaa (HB4.out.step hS5 hg5);clear hS5 hg5;go_wp2;go_meet;exact ⟨v5,rfl,HB5⟩
 case rest=>
 obtain ⟨win,rfl,HB0⟩:=hcut;obtain ⟨w5,hw5⟩:∃ X,wc=X:=⟨_,rfl⟩;rw [hw5] at HB0 ⊢;clear hw5 HB4;go_wp2_with fail;refine (Qh1 HC.out HB0.out.f.src 15 (by omega)).mono ?_;rintro e W5 ⟨b2,rfl,hS5,hg5⟩;have HB:=Qaa (HB0.out.step hS5 hg5);clear hS5 hg5 HB0
 cases b2 with
 | true=>
  go_wp2_with fail;have HX0:Hid (DBx W0 w1 W0.heap.size ao ln cap W5.drew c nm ax n cp L):=HB.out.step (Qch (k:=1) HB.out.f.src) (Qbb W5 1 _);refine Qaj (fun W1=>W1.heap[c]?=some (.cells #[.string nm,.slice ax n cp] 25 (0,0))) 6 (by kernel_rfl) ?_;generalize W5.drew=X0 at HX0 ⊢;refine tkL (i:=0) (v:=.agg #[.string nm,.slice ax n cp]) rfl rfl HX0.out.row (fun W hW=>?_) ?_
  ·have x0:=Qaw hW 0 rfl
   have x1:=Qaw hW 1 rfl;clear hW;go_simp
  refine tkS (i:=1) (v:=.int .i64 win) rfl rfl HX0.out.row ?_;refine tkS (i:=2) (v:=.pointer (some ⟨W0.heap.size,0,none⟩)) rfl rfl HX0.out.row ?_;simp only [sA,sB,sC];refine onE (i:=3) rfl (fun K hK=>?_);go_simp;refine (Qed HC.out HX0.out.f.src).mono ?_;rintro e w6 ⟨x,rfl,ox,hS6,hg6⟩;have HX6:=Qaa (HX0.out.step hS6 hg6);have OX:=Qaa ox;clear hS6 hg6 ox HX0;dsimp only;refine hK.out _ _ (fun _=>HX6.out.row) ?_;clear hK K
  try simp only [Act.put,sA,sB,sC]
  have z:=HZ0.out;have HA6:=Qaa ((HX6.out.f.src.bel.block w.heap.size (by omega)).trans HR1.out);have HB6:=Qaa ((HX6.out.f.src.bel.block (w.heap.size+1) (by omega)).trans HR2.out);have HT6:=Qaa (Qad HT0.out HX6.out.f.src.bel)
  have OW6:Hid (OwnC w6 (w.heap.size+2) (.slice ax n cp) L/\∀ d∈L,AgO w6 (w.heap.size+2) d.g d.p):=by
   have h1:=HX6.out.h0;exact Qaa ⟨HX6.out.f.own.le (by omega),fun d hd=>(HX6.out.f.ag d hd).le (by omega)⟩
  have SP:=Qaa HX6.out.f.q;have SN:=Qaa (And.intro HX6.out.f.hn (And.intro HX6.out.f.len HX6.out.f.nmz))
  have ROWC7:Hid (((w6.setCell ⟨w.heap.size,0,none⟩ (.string nm)).setCell ⟨w.heap.size,1,none⟩ (.slice ax n cp)).heap[c]?=some (.cells #[.string nm,.slice ax n cp] 25 (0,0))):=by
   have h1:=HX6.out.hc;rw [QcA (Below.heap_setCell _ _ _ _ (by simp;omega)),QcA (Below.heap_setCell _ _ _ _ (by simp;omega))];exact Qaa HX6.out.row
  clear HX6;have z0:=Qac HA6.out 0 rfl;have z1:=Qac HA6.out 1 rfl;have f0:=fzR 0 HA6.out;have f1:=fzR 1 HA6.out;refine onE (i:=4) rfl (fun K hK=>?_);go_simp;have r1:(w6.setCell ⟨w.heap.size,0,none⟩ (.string nm)).heap[w.heap.size]?=some (.cells #[.string nm,.slice none 0 0] 25 (0,0)):=ZZl w6 _ 0 _ _ _ HA6.out;have HA7:Hid (((w6.setCell ⟨w.heap.size,0,none⟩ (.string nm)).setCell ⟨w.heap.size,1,none⟩ (.slice ax n cp)).heap[w.heap.size]?=some (.cells #[.string nm,.slice ax n cp] 25 (0,0))):=ZZl _ _ 1 _ _ _ r1
  have HB7:Hid (((w6.setCell ⟨w.heap.size,0,none⟩ (.string nm)).setCell ⟨w.heap.size,1,none⟩ (.slice ax n cp)).heap[w.heap.size+1]?=some (.cells #[.int .i64 0,.string ⟨#[]⟩,.int .i64 0,.string ⟨#[]⟩,.int .u64 0,.bool false,.int .i64 0] 28 (0,0))):=by
   rw [QcA (Below.heap_setCell _ _ _ _ (by simp)),QcA (Below.heap_setCell _ _ _ _ (by simp))];exact HB6
  have HT7:Hid (Below w.heap.size w ((w6.setCell ⟨w.heap.size,0,none⟩ (.string nm)).setCell ⟨w.heap.size,1,none⟩ (.slice ax n cp))):=(HT6.out.setCell (by simp) _).setCell (by simp) _;have OW7:=Qaa (Qds (j:=1) (show w.heap.size<w.heap.size+2 by omega) (.slice ax n cp) (Qds (j:=0) (show w.heap.size<w.heap.size+2 by omega) (.string nm) OW6.out));clear z0 z1 f0 f1 r1 HA6 HB6 HT6 OW6;refine hK.out _ _ (fun _=>ROWC7.out) ?_;clear hK K
  try simp only [Act.put,sA,sB,sC]
  generalize (w6.setCell ⟨w.heap.size,0,none⟩ (.string nm)).setCell ⟨w.heap.size,1,none⟩ (.slice ax n cp)=w7 at HA7 HB7 HT7 OW7 ROWC7 ⊢;refine onE (i:=5) rfl (fun K hK=>?_);go_simp;refine hK.out _ _ (fun _=>ROWC7.out) ?_;clear hK K
  try simp only [Act.put,sA,sB,sC]
  obtain ⟨y0,y1,y2,y3,y4,y5,y6⟩:=cA7 HB7.out;obtain ⟨f0,f1,f2,f3,f4,f5,f6⟩:=fA7 HB7.out;refine onE (i:=6) rfl (fun K hK=>?_);go_simp;refine hK.out _ _ (fun h=>absurd rfl h) ?_;clear hK K
  try simp only [Act.put,sA,sB,sC]
  refine Qar (by kernel_rfl) ?_ _;have z0:=Qaw HA7.out 0 rfl;have z1:=Qaw HA7.out 1 rfl;go_wp2;refine bodyPost_ret (v:=.tuple #[.agg #[.string nm,.slice ax n cp],.int .i64 win,.agg (Qax x)]) (by simp [results,Tryz.results7,go_sem,z0,z1,y0,y1,y2,y3,y4,y5,y6]) rfl ⟨nm,ax,n,cp,L,win,x,rfl,?_,SN.out.2.2,OX.out,?_⟩
  ·refine Qo9 (k:=2) ?_ SP.out SN.out.1 SN.out.2.1
   repeat (refine Qds (by omega) _ ?_)
   exact OW7.out
  ·repeat (refine Below.setCell ?_ (by simp) _)
   exact HT7.out
 | false=>
  go_wp2_with fail;have HX0:Hid (DBx W0 w1 W0.heap.size ao ln cap W5.drew c nm ax n cp L):=HB.out.step (Qch (k:=1) HB.out.f.src) (Qbb W5 1 _);refine Qaj (fun W1=>W1.heap[c]?=some (.cells #[.string nm,.slice ax n cp] 25 (0,0))) 6 (by kernel_rfl) ?_;generalize W5.drew=X0 at HX0 ⊢;refine tkL (i:=0) (v:=.agg #[.string nm,.slice ax n cp]) rfl rfl HX0.out.row (fun W hW=>?_) ?_
  ·have x0:=Qaw hW 0 rfl
   have x1:=Qaw hW 1 rfl;clear hW;go_simp
  refine tkS (i:=1) (v:=.int .i64 win) rfl rfl HX0.out.row ?_;refine tkS (i:=2) (v:=.pointer (some ⟨W0.heap.size,0,none⟩)) rfl rfl HX0.out.row ?_;simp only [sA,sB,sC];refine onE (i:=3) rfl (fun K hK=>?_);go_simp;refine (QcQ HC.out HX0.out.f.src).mono ?_;rintro e w6 ⟨x,rfl,ox,hS6,hg6⟩;have HX6:=Qaa (HX0.out.step hS6 hg6);have OX:=Qaa ox;clear hS6 hg6 ox HX0;dsimp only;refine hK.out _ _ (fun _=>HX6.out.row) ?_;clear hK K
  try simp only [Act.put,sA,sB,sC]
  have z:=HZ0.out;have HA6:=Qaa ((HX6.out.f.src.bel.block w.heap.size (by omega)).trans HR1.out);have HB6:=Qaa ((HX6.out.f.src.bel.block (w.heap.size+1) (by omega)).trans HR2.out);have HT6:=Qaa (Qad HT0.out HX6.out.f.src.bel)
  have OW6:Hid (OwnC w6 (w.heap.size+2) (.slice ax n cp) L/\∀ d∈L,AgO w6 (w.heap.size+2) d.g d.p):=by
   have h1:=HX6.out.h0;exact Qaa ⟨HX6.out.f.own.le (by omega),fun d hd=>(HX6.out.f.ag d hd).le (by omega)⟩
  have SP:=Qaa HX6.out.f.q;have SN:=Qaa (And.intro HX6.out.f.hn (And.intro HX6.out.f.len HX6.out.f.nmz))
  have ROWC7:Hid (((w6.setCell ⟨w.heap.size,0,none⟩ (.string nm)).setCell ⟨w.heap.size,1,none⟩ (.slice ax n cp)).heap[c]?=some (.cells #[.string nm,.slice ax n cp] 25 (0,0))):=by
   have h1:=HX6.out.hc;rw [QcA (Below.heap_setCell _ _ _ _ (by simp;omega)),QcA (Below.heap_setCell _ _ _ _ (by simp;omega))];exact Qaa HX6.out.row
  clear HX6;have z0:=Qac HA6.out 0 rfl;have z1:=Qac HA6.out 1 rfl;have f0:=fzR 0 HA6.out;have f1:=fzR 1 HA6.out;refine onE (i:=4) rfl (fun K hK=>?_);go_simp;have r1:(w6.setCell ⟨w.heap.size,0,none⟩ (.string nm)).heap[w.heap.size]?=some (.cells #[.string nm,.slice none 0 0] 25 (0,0)):=ZZl w6 _ 0 _ _ _ HA6.out;have HA7:Hid (((w6.setCell ⟨w.heap.size,0,none⟩ (.string nm)).setCell ⟨w.heap.size,1,none⟩ (.slice ax n cp)).heap[w.heap.size]?=some (.cells #[.string nm,.slice ax n cp] 25 (0,0))):=ZZl _ _ 1 _ _ _ r1
  have HB7:Hid (((w6.setCell ⟨w.heap.size,0,none⟩ (.string nm)).setCell ⟨w.heap.size,1,none⟩ (.slice ax n cp)).heap[w.heap.size+1]?=some (.cells #[.int .i64 0,.string ⟨#[]⟩,.int .i64 0,.string ⟨#[]⟩,.int .u64 0,.bool false,.int .i64 0] 28 (0,0))):=by
   rw [QcA (Below.heap_setCell _ _ _ _ (by simp)),QcA (Below.heap_setCell _ _ _ _ (by simp))];exact HB6
  have HT7:Hid (Below w.heap.size w ((w6.setCell ⟨w.heap.size,0,none⟩ (.string nm)).setCell ⟨w.heap.size,1,none⟩ (.slice ax n cp))):=(HT6.out.setCell (by simp) _).setCell (by simp) _;have OW7:=Qaa (Qds (j:=1) (show w.heap.size<w.heap.size+2 by omega) (.slice ax n cp) (Qds (j:=0) (show w.heap.size<w.heap.size+2 by omega) (.string nm) OW6.out));clear z0 z1 f0 f1 r1 HA6 HB6 HT6 OW6;refine hK.out _ _ (fun _=>ROWC7.out) ?_;clear hK K
  try simp only [Act.put,sA,sB,sC]
  generalize (w6.setCell ⟨w.heap.size,0,none⟩ (.string nm)).setCell ⟨w.heap.size,1,none⟩ (.slice ax n cp)=w7 at HA7 HB7 HT7 OW7 ROWC7 ⊢;refine onE (i:=5) rfl (fun K hK=>?_);go_simp;refine hK.out _ _ (fun _=>ROWC7.out) ?_;clear hK K
  try simp only [Act.put,sA,sB,sC]
  obtain ⟨y0,y1,y2,y3,y4,y5,y6⟩:=cA7 HB7.out;obtain ⟨f0,f1,f2,f3,f4,f5,f6⟩:=fA7 HB7.out;refine onE (i:=6) rfl (fun K hK=>?_);go_simp;refine hK.out _ _ (fun h=>absurd rfl h) ?_;clear hK K
  try simp only [Act.put,sA,sB,sC]
  refine Qar (by kernel_rfl) ?_ _;have z0:=Qaw HA7.out 0 rfl;have z1:=Qaw HA7.out 1 rfl;go_wp2;refine bodyPost_ret (v:=.tuple #[.agg #[.string nm,.slice ax n cp],.int .i64 win,.agg (Qax x)]) (by simp [results,Tryz.results7,go_sem,z0,z1,y0,y1,y2,y3,y4,y5,y6]) rfl ⟨nm,ax,n,cp,L,win,x,rfl,?_,SN.out.2.2,OX.out,?_⟩
  ·refine Qo9 (k:=2) ?_ SP.out SN.out.1 SN.out.2.1
   repeat (refine Qds (by omega) _ ?_)
   exact OW7.out
  ·repeat (refine Below.setCell ?_ (by simp) _)
   exact HT7.out
theorem Qf1 {w:World} {ln cap:Nat} {ao:Option Addr} (hc:Qbr w w.heap.size ao ln) :
  Calls Tryz.prog 12 #[.slice ao ln cap] w fun e w'=>∃ (nm:ByteArray) (ax:Option Addr) (n cp:Nat) (L:List Ce) (win:Int),e=.returned (.tuple #[.agg #[.string nm,.slice ax n cp],.int .i64 win])/\DCe w w' ax n cp L/\nm.size<=1/\Below w.heap.size w w':=by
 have a0:Below w.heap.size w (w.alloc (.cells #[.string ⟨#[]⟩,.slice none 0 0] 25)):=(ZZb _ _).alloc (ZZa _) _;have HC:=Qaa (Qf4 (B:=(w.alloc (.cells #[.string ⟨#[]⟩,.slice none 0 0] 25)).heap.size) hc a0 (ZZa _) a0.size);have HR1:=Qaa (ZZk w (.cells #[.string ⟨#[]⟩,.slice none 0 0] 25));have HT0:=Qaa a0;have hz0:(w.alloc (.cells #[.string ⟨#[]⟩,.slice none 0 0] 25)).heap.size=w.heap.size+1:=by simp
 have HZ0:=Qaa hz0;clear hc a0 hz0;go_enter Tryz.func12,Tryz.ntmps12;go_wp2_with fail;generalize (w.alloc (.cells #[.string ⟨#[]⟩,.slice none 0 0] 25))=W0 at HC HR1 HT0 HZ0 ⊢;refine (QfZ (K:=W0.heap.size) _ _ _ _ rfl HC.out).mono ?_;rintro e w1 ⟨rfl,hS1⟩;have HS1:=Qaa hS1;clear hS1;go_wp2_with fail;refine (Qg6 HC.out HS1.out).mono ?_;rintro e w2 ⟨nm,ax,n,cp,L,rfl,hf⟩;have HB2:=Qaa hf.box;clear hf HS1;go_wp2_with fail;generalize w2.alloc (.cells #[.string nm,.slice ax n cp] 25)=W5 at HB2 ⊢;generalize w2.heap.size=c at HB2 ⊢;have HX0:Hid (DBx W0 w1 W0.heap.size ao ln cap W5.drew c nm ax n cp L):=HB2.out.step (Qch (k:=1) HB2.out.f.src) (Qbb W5 1 _);refine Qaj (fun W1=>W1.heap[c]?=some (.cells #[.string nm,.slice ax n cp] 25 (0,0))) 7 (by kernel_rfl) ?_;generalize W5.drew=X0 at HX0 ⊢;refine tkL (i:=0) (v:=.agg #[.string nm,.slice ax n cp]) rfl rfl HX0.out.row (fun W hW=>?_) ?_
 ·have x0:=Qaw hW 0 rfl
  have x1:=Qaw hW 1 rfl;clear hW;go_simp
 refine tkS (i:=1) (v:=.pointer (some ⟨W0.heap.size,0,none⟩)) rfl rfl HX0.out.row ?_;refine tkS (i:=3) (v:=.pointer (some ⟨W0.heap.size,0,none⟩)) rfl rfl HX0.out.row ?_;simp only [sA,sB,sC];refine onE (i:=2) rfl (fun K hK=>?_);go_simp;refine (c_n HC.out HX0.out.f.src 4 (by omega)).mono ?_;rintro e w3 ⟨va,rfl,a0,a1,_,hS3,hg3⟩;have a1:=a1 (by omega);have HX3:=Qaa (HX0.out.step hS3 hg3);clear hS3 hg3 HX0;dsimp only;refine hK.out _ _ (fun _=>HX3.out.row) ?_;clear hK K
 try simp only [Act.put,sA,sB,sC]
 refine onE (i:=4) rfl (fun K hK=>?_);go_simp;refine (c_n HC.out HX3.out.f.src 2 (by omega)).mono ?_;rintro e w6 ⟨vb,rfl,b0,b1,_,hS4,hg4⟩;have b1:=b1 (by omega);have HX6:=Qaa (HX3.out.step hS4 hg4);clear hS4 hg4 HX3;dsimp only;refine hK.out _ _ (fun _=>HX6.out.row) ?_;clear hK K
 try simp only [Act.put,sA,sB,sC]
 have hw:IntKind.i64.wrap (va - vb)=va - vb:=ZZi _ ⟨by omega,by omega⟩;refine tkS (i:=5) (v:=.int .i64 (va - vb)) rfl rfl HX6.out.row ?_;simp only [sA,sB,sC];have z:=HZ0.out;have HA6:=Qaa ((HX6.out.f.src.bel.block w.heap.size (by omega)).trans HR1.out);have HT6:=Qaa (Qad HT0.out HX6.out.f.src.bel)
 have OW6:Hid (OwnC w6 (w.heap.size+1) (.slice ax n cp) L/\∀ d∈L,AgO w6 (w.heap.size+1) d.g d.p):=by
  have h1:=HX6.out.h0;exact Qaa ⟨HX6.out.f.own.le (by omega),fun d hd=>(HX6.out.f.ag d hd).le (by omega)⟩
 have SP:=Qaa HX6.out.f.q;have SN:=Qaa (And.intro HX6.out.f.hn (And.intro HX6.out.f.len HX6.out.f.nmz))
 have ROWC7:Hid (((w6.setCell ⟨w.heap.size,0,none⟩ (.string nm)).setCell ⟨w.heap.size,1,none⟩ (.slice ax n cp)).heap[c]?=some (.cells #[.string nm,.slice ax n cp] 25 (0,0))):=by
  have h1:=HX6.out.hc;rw [QcA (Below.heap_setCell _ _ _ _ (by simp;omega)),QcA (Below.heap_setCell _ _ _ _ (by simp;omega))];exact Qaa HX6.out.row
 clear HX6;have z0:=Qac HA6.out 0 rfl;have z1:=Qac HA6.out 1 rfl;have f0:=fzR 0 HA6.out;have f1:=fzR 1 HA6.out;refine onE (i:=6) rfl (fun K hK=>?_);go_simp;have r1:(w6.setCell ⟨w.heap.size,0,none⟩ (.string nm)).heap[w.heap.size]?=some (.cells #[.string nm,.slice none 0 0] 25 (0,0)):=ZZl w6 _ 0 _ _ _ HA6.out;have HA7:Hid (((w6.setCell ⟨w.heap.size,0,none⟩ (.string nm)).setCell ⟨w.heap.size,1,none⟩ (.slice ax n cp)).heap[w.heap.size]?=some (.cells #[.string nm,.slice ax n cp] 25 (0,0))):=ZZl _ _ 1 _ _ _ r1;have HT7:Hid (Below w.heap.size w ((w6.setCell ⟨w.heap.size,0,none⟩ (.string nm)).setCell ⟨w.heap.size,1,none⟩ (.slice ax n cp))):=(HT6.out.setCell (by simp) _).setCell (by simp) _;have OW7:=Qaa (Qds (j:=1) (show w.heap.size<w.heap.size+1 by omega) (.slice ax n cp) (Qds (j:=0) (show w.heap.size<w.heap.size+1 by omega) (.string nm) OW6.out));clear z0 z1 f0 f1 r1 HA6 HT6 OW6;refine hK.out _ _ (fun _=>ROWC7.out) ?_;clear hK K
 try simp only [Act.put,sA,sB,sC]
 generalize (w6.setCell ⟨w.heap.size,0,none⟩ (.string nm)).setCell ⟨w.heap.size,1,none⟩ (.slice ax n cp)=w7 at HA7 HT7 OW7 ROWC7 ⊢;refine onE (i:=7) rfl (fun K hK=>?_);go_simp;refine hK.out _ _ (fun h=>absurd rfl h) ?_;clear hK K
 try simp only [Act.put,sA,sB,sC]
 refine Qar (by kernel_rfl) ?_ _;have z0:=Qaw HA7.out 0 rfl;have z1:=Qaw HA7.out 1 rfl;go_wp2;refine bodyPost_ret (v:=.tuple #[.agg #[.string nm,.slice ax n cp],.int .i64 (va - vb)]) (by simp [results,Tryz.results12,go_sem,z0,z1]) rfl ⟨nm,ax,n,cp,L,va - vb,rfl,⟨OW7.out.1.le (by omega),fun d hd=>(OW7.out.2 d hd).le (by omega),SP.out,SN.out.1,SN.out.2.1⟩,SN.out.2.2,HT7.out⟩
def AtK (L:List Ce) (n:Int) (s:ByteArray) (k:Int) (g:Ag):Prop:=(n,s,g)∈L.map Ce.key∨(¬ Qfc L n s/\g=QaR k)
section
variable {nm n1 n2:ByteArray} {a b m P Q Z:List Ce} {win cp cq:Int} {x:Sx}
end
theorem QgS {L:List Ce} (h:csR L=true) (f:Ce->Bool):csR (L.filter f)=true:=by
 obtain ⟨h1,h2,h3⟩:=csR_iff.1 h;exact csR_iff.2 ⟨Nat.le_trans (List.length_filter_le _ _) h1,fun c hc=>h2 c (List.mem_filter.1 hc).1,h3.sublist List.filter_sublist⟩
theorem Qn9 {L A B R:List Ce} {f:Ce->Bool} (hL:csR L=true) (hA:A.map Ce.key=(L.filter f).map Ce.key) (hB:B.map Ce.key=(L.filter (fun c=>!f c)).map Ce.key) (m:MgA A B R):R.map Ce.key=L.map Ce.key:=by
 have m:=m.keys hA hB;obtain ⟨h1,h2,h3⟩:=csR_iff.1 hL;have r1:=QgS hL f;have r2:=QgS hL (fun c=>!f c);have a1:=(csR_iff.1 r1).2.2;have a2:=(csR_iff.1 r2).2.2
 have dis:∀ n s g g',(n,s,g)∈(L.filter f).map Ce.key->¬ (n,s,g')∈(L.filter (fun c=>!f c)).map Ce.key:=fun n s g g' p q=>by
  obtain ⟨c,hc,c1,c2,_⟩:=mem_key.1 p;obtain ⟨d,hd,d1,d2,_⟩:=mem_key.1 q;obtain ⟨hc,fc⟩:=List.mem_filter.1 hc;obtain ⟨hd,fd⟩:=List.mem_filter.1 hd;rw [Qca h3 hc hd (c1.trans d1.symm) (c2.trans d2.symm)] at fc;rw [fc] at fd
  cases fd
 rcases m.cases r1 r2 with ⟨_,M,mm,e⟩ | ⟨nk,_⟩
 ·have e2:M.map Ce.key=L.map Ce.key:=by
   refine Qnq (mm.asc a1) h3 (fun ⟨n,s,g⟩=>?_);rw [QjC mm a1 a2];constructor
   ·rintro (⟨q,_⟩ | ⟨q,_⟩ | ⟨x,y,q1,q2,_⟩)
    ·obtain ⟨c,hc,r⟩:=mem_key.1 q
     exact mem_key.2 ⟨c,(List.mem_filter.1 hc).1,r⟩
    ·obtain ⟨c,hc,r⟩:=mem_key.1 q
     exact mem_key.2 ⟨c,(List.mem_filter.1 hc).1,r⟩
    ·exact absurd q2 (dis n s x y q1)
   ·intro q
    obtain ⟨c,hc,r⟩:=mem_key.1 q
    cases fc:f c with
    | true=>
     have q1:(n,s,g)∈(L.filter f).map Ce.key:=mem_key.2 ⟨c,List.mem_filter.2 ⟨hc,fc⟩,r⟩;exact .inl ⟨q1,fun k=>by obtain ⟨g',k⟩:=hasK_mem.1 k;exact dis n s g g' q1 k⟩
    | false=>
     have q1:(n,s,g)∈(L.filter (fun c=>!f c)).map Ce.key:=mem_key.2 ⟨c,List.mem_filter.2 ⟨hc,by rw [fc];rfl⟩,r⟩;exact .inr (.inl ⟨q1,fun k=>by obtain ⟨g',k⟩:=hasK_mem.1 k;exact dis n s g' g k q1⟩)
  have l:=Qdd e2;rw [if_pos (by omega)] at e;exact e.trans e2
 ·exact absurd (fun n s g g' p q=>absurd q (dis n s g g' p)) nk
theorem QjA (g:Ag):QaG g g=true:=by simp [QaG,Qa5,Qbg]
theorem Qfk:∀ L:List Ce,QbR L L=true
 | []=>rfl
 | c :: L=>by
  show (QgE c c && QbR L L)=true
  rw [Qfk L,Bool.and_true];unfold QgE;rw [QjA];simp
theorem Qi5 {L M:List Ce} (k:L.map Ce.key=M.map Ce.key) (l:M.length<=400):csB L M=true:=by
 rw [QqA k rfl];unfold csB;rw [Qfk];simp [l]
theorem Qe4:CnQ []:=⟨by simp,by simp,by simp,by simp⟩
theorem MgA.q {a b R:List Ce} (h:MgA a b R) (qa:csR a=true->CnQ a) (qb:csR b=true->CnQ b):R.length<=60/\CnQ R:=by
 by_cases hr:csR a=true/\csR b=true
 ·rcases h.cases hr.1 hr.2 with ⟨_,M,mm,e⟩ | ⟨_,e⟩
  ·split at e
   ·rename_i hl
    have:=congrArg List.length e;simp at this;exact ⟨by omega,(mm.cnq (qa hr.1) (qb hr.2)).keys e⟩
   ·subst e;exact ⟨by simp,Qe4⟩
  ·subst e;exact ⟨by simp,Qe4⟩
 ·unfold MgA at h
  rw [if_neg hr] at h;subst h;exact ⟨by simp,Qe4⟩
theorem QhG {w:World} {ao:Option Addr} {n cp:Nat} {R:List Ce} (r:OwnC w 0 (.slice ao n cp) R) (o:CesO w 0 R) (l:R.length=n) (b:R.length<=61) (q:CnQ R):ShI w ao n R:=
 ⟨l,by omega,q.ok,q.sm,fun c hc=>(q.ky c hc).2,fun c hc=>(o.o c hc).plgX,OwnC.at r o.at⟩
theorem MgP.sh {w w':World} {a b:List Ce} {e:Ending} (h:MgP w a b e w') (qa:csR a=true->CnQ a) (qb:csR b=true->CnQ b):∃ ao n cp R,e=.returned (.slice ao n cp)/\MgA a b R/\ShI w' ao n R/\R.length<=60/\CnQ R/\Below w.heap.size w w':=by
 obtain ⟨v,R,rfl,hm,hr,ho,hb⟩:=h;obtain ⟨ao,cp,rfl,_⟩:=hr.form;obtain ⟨l,q⟩:=hm.q qa qb;exact ⟨ao,R.length,cp,R,rfl,hm,QhG (hr.le (ZZj _)) (ho.le (ZZj _)) rfl (by omega) q,l,q,hb⟩
theorem PtA.qS {nm nm':ByteArray} {L R:List Ce} {win code:Int} {x:Sx} (h:PtA nm L win x nm' R code) (q:csR L=true->CnQ L) (ox:x.Ok):R.length<=60/\CnQ R/\(code=0->csR L=true/\csR R=true/\nm'=nm/\shB nm R=true/\R.length<=L.length+1):=by
 rcases QkU h with ⟨e,en⟩ | ⟨e,_,eR⟩
 ·subst e
  have hs:shB nm L=true:=by
   cases h with
   | there _ _ _ q=>exact q.1
   | new _ _ q=>exact q.1
  have hL:=QcJ hs;obtain ⟨r1,r2,_⟩:=Qet hL (q hL) ox h rfl;refine ⟨(csR_iff.1 r1).1,r2,fun _=>⟨hL,r1,en,?_,?_⟩⟩
  ·unfold shB at hs ⊢
   simp only [Bool.and_eq_true] at hs ⊢;exact ⟨hs.1,r1⟩
  ·have asc:=(csR_iff.1 hL).2.2
   cases h with
   | there c o R q hc k1 k2 hk hp hR=>
    have e1:=congrArg List.length hR;have e2:=congrArg List.length (QcL asc hc);rw [k1,k2] at e2;simp at e1 e2;omega
   | new o R q hn hl hp hR=>
    have e1:=congrArg List.length hR;have e2:=(QeO hn).length_eq;simp at e1 e2;omega
 ·subst eR
  exact ⟨by simp,Qe4,fun z=>absurd z e⟩
structure PtX (w:World) (G:Nat) (nm':ByteArray) (ar:Option Addr) (m c:Nat) (ap:Option Addr) (cq:Nat) (R:List Ce) (code:Int):Prop where
 y:w.heap[G]?=some (.cells #[.string nm',.slice ar m c,.slice ap 0 cq,.int .i64 code] 32 (0,0))
 r:OwnC w 0 (.slice ar m c) R
 o:CesO w 0 R
 l:R.length=m
section
variable {w w':World} {G:Nat} {nm':ByteArray} {ar:Option Addr} {m c:Nat} {ap:Option Addr} {cq:Nat} {R:List Ce} {code:Int}
theorem PtX.past (h:PtX w G nm' ar m c ap cq R code) (hb:Below w.heap.size w w'):PtX w' G nm' ar m c ap cq R code:=
 ⟨(hb.block G (ZZc.1 h.y).1).trans h.y,h.r.past hb,h.o.past hb,h.l⟩
theorem PtX.sh (h:PtX w G nm' ar m c ap cq R code) (l:R.length<=60) (q:CnQ R):ShI w ar m R:=QhG h.r h.o h.l (by omega) q
theorem PtX.cells (h:PtX w G nm' ar m c ap cq R code):w.cell? ⟨G,0,none⟩=some (.string nm')/\w.cell? ⟨G,1,none⟩=some (.slice ar m c)/\w.cell? ⟨G,3,none⟩=some (.int .i64 code):=⟨Qaw h.y 0 rfl,Qaw h.y 1 rfl,Qaw h.y 3 rfl⟩
end
theorem PtP.box {w w':World} {nm:ByteArray} {L:List Ce} {win:Int} {x:Sx} {e:Ending} (h:PtP w nm L win x e w'):∃ nm' ar m c ap cq R code,e=.returned (.agg #[.string nm',.slice ar m c,.slice ap 0 cq,.int .i64 code])/\PtA nm L win x nm' R code/\PtX (w'.alloc (.cells #[.string nm',.slice ar m c,.slice ap 0 cq,.int .i64 code] 32)) w'.heap.size nm' ar m c ap cq R code/\Below w.heap.size w (w'.alloc (.cells #[.string nm',.slice ar m c,.slice ap 0 cq,.int .i64 code] 32)):=by
 obtain ⟨v,nm',R,code,rfl,ha,⟨⟨vr,vo,rfl,hr,ho,_⟩,hc⟩,hb⟩:=h;obtain ⟨ar,c,rfl,_⟩:=hr.form;obtain ⟨ap,cq,rfl,_⟩:=ho.form;have al:Below w'.heap.size w' (w'.alloc (.cells #[.string nm',.slice ar R.length c,.slice ap 0 cq,.int .i64 code] 32)):=(ZZb _ _).alloc (ZZa _) _;exact ⟨nm',ar,R.length,c,ap,cq,R,code,rfl,ha,⟨ZZk w' _,(hr.past al).le (ZZj _),((CesO.sub hc (List.sublist_append_left R [])).past al).le (ZZj _),rfl⟩,Qad hb al⟩
structure TkX (w:World) (G:Nat) (nm':ByteArray) (ar:Option Addr) (m c:Nat) (ap:Option Addr) (p cq:Nat) (R O:List Ce) (code:Int):Prop where
 y:w.heap[G]?=some (.cells #[.string nm',.slice ar m c,.slice ap p cq,.int .i64 code] 32 (0,0))
 r:OwnC w 0 (.slice ar m c) R
 s:OwnC w 0 (.slice ap p cq) O
 o:CesO w 0 (R ++ O)
 l:R.length=m
 k:O.length=p
section
variable {w w':World} {G:Nat} {nm':ByteArray} {ar:Option Addr} {m c:Nat} {ap:Option Addr} {p cq:Nat} {R O:List Ce} {code:Int}
theorem TkX.past (h:TkX w G nm' ar m c ap p cq R O code) (hb:Below w.heap.size w w'):TkX w' G nm' ar m c ap p cq R O code:=
 ⟨(hb.block G (ZZc.1 h.y).1).trans h.y,h.r.past hb,h.s.past hb,h.o.past hb,h.l,h.k⟩
theorem TkX.shR (h:TkX w G nm' ar m c ap p cq R O code) (l:R.length<=61) (q:CnQ R):ShI w ar m R:=QhG h.r (CesO.sub h.o (List.sublist_append_left R O)) h.l l q
theorem TkX.shO (h:TkX w G nm' ar m c ap p cq R O code) (l:O.length<=61) (q:CnQ O):ShI w ap p O:=QhG h.s (CesO.sub h.o (List.sublist_append_right R O)) h.k l q
theorem TkX.cells (h:TkX w G nm' ar m c ap p cq R O code):w.cell? ⟨G,0,none⟩=some (.string nm')/\w.cell? ⟨G,1,none⟩=some (.slice ar m c)/\w.cell? ⟨G,2,none⟩=some (.slice ap p cq)/\w.cell? ⟨G,3,none⟩=some (.int .i64 code):=⟨Qaw h.y 0 rfl,Qaw h.y 1 rfl,Qaw h.y 2 rfl,Qaw h.y 3 rfl⟩
end
theorem TkP.box {w w':World} {nm:ByteArray} {L:List Ce} {win:Int} {e:Ending} (h:TkP w nm L win e w'):∃ nm' ar m c ap p cq R O code,e=.returned (.agg #[.string nm',.slice ar m c,.slice ap p cq,.int .i64 code])/\TkA nm L win nm' R O code/\TkX (w'.alloc (.cells #[.string nm',.slice ar m c,.slice ap p cq,.int .i64 code] 32)) w'.heap.size nm' ar m c ap p cq R O code/\Below w.heap.size w (w'.alloc (.cells #[.string nm',.slice ar m c,.slice ap p cq,.int .i64 code] 32)):=by
 obtain ⟨v,nm',R,O,code,rfl,ha,⟨⟨vr,vo,rfl,hr,ho,_⟩,hc⟩,hb⟩:=h;obtain ⟨ar,c,rfl,_⟩:=hr.form;obtain ⟨ap,cq,rfl,_⟩:=ho.form;have al:Below w'.heap.size w' (w'.alloc (.cells #[.string nm',.slice ar R.length c,.slice ap O.length cq,.int .i64 code] 32)):=(ZZb _ _).alloc (ZZa _) _;exact ⟨nm',ar,R.length,c,ap,O.length,cq,R,O,code,rfl,ha,⟨ZZk w' _,(hr.past al).le (ZZj _),(ho.past al).le (ZZj _),(hc.past al).le (ZZj _),rfl,rfl⟩,Qad hb al⟩
theorem Qot (w:World) (nm:ByteArray) (v:Value) (x:Sx):Below w.heap.size w ((w.alloc (.cells #[.string nm,v] 25)).alloc (.cells (Qax x) 28))/\((w.alloc (.cells #[.string nm,v] 25)).alloc (.cells (Qax x) 28)).heap[w.heap.size]?=some (.cells #[.string nm,v] 25 (0,0))/\((w.alloc (.cells #[.string nm,v] 25)).alloc (.cells (Qax x) 28)).heap[w.heap.size+1]?=some (.cells (Qax x) 28 (0,0)):=by
 have a1:Below w.heap.size w (w.alloc (.cells #[.string nm,v] 25)):=(ZZb _ _).alloc (ZZa _) _;have a2:Below (w.alloc (.cells #[.string nm,v] 25)).heap.size (w.alloc (.cells #[.string nm,v] 25)) ((w.alloc (.cells #[.string nm,v] 25)).alloc (.cells (Qax x) 28)):=(ZZb _ _).alloc (ZZa _) _;have k2:=ZZk (w.alloc (.cells #[.string nm,v] 25)) (.cells (Qax x) 28);have e:(w.alloc (.cells #[.string nm,v] 25)).heap.size=w.heap.size+1:=by simp
 rw [e] at k2;exact ⟨Qad a1 a2,(a2.block _ (by rw [e];omega)).trans (heap_alloc_new w _),k2⟩
theorem Qa0 {w w':World} {r:Nat} {o:Obj} (h:w.heap[r]?=some o) (hb:Below w.heap.size w w'):w'.heap[r]?=some o:=(hb.block r (ZZc.1 h).1).trans h
theorem Qmx {w:World} {ao:Option Addr} {N:Nat} {L:List Ce} (h:ShI w ao N L):csR L=true->CnQ L:=fun r=>Ql1 h r
end Go.Proofs.YthchmdmncmioiaaGreatDoor
namespace Go.Proofs.YthchmdmncmioiaaGreatDoor
set_option linter.unusedVariables false
set_option linter.unusedSimpArgs false
open Go.RowKit
open Go.ChangeMaps (open_string shut_string)
open Go.ChangeAt Go.ChangeShapes Go.PlainAid Go.WideShapes
set_option maxRecDepth 100000 in
theorem Qig {H:Type} {enc:TypeId×Value->H} {W:World} {r:Reach} {b0 base:Nat} {sp:Nat->Bool} {held:Bool} {v:Value} {d:DataW H} {ps:List MemPlace}
  (hval:Value.okWide Tryz.prog W r b0 22 v) (hd:DataW.Trod enc Tryz.prog W base sp held 22 v d ps):∃ ao ln cap,v=.slice ao ln cap/\ln<=maxLen/\(ln<=1048576->Qbr W W.heap.size ao ln):=by
 obtain ⟨ao,ln,cap,rfl⟩:=okWide_slice Tryz.underlying22 hval;obtain ⟨fuel,hf⟩:=hd;rcases open_ints Tryz.underlying22 Tryz.underlying5 (show Tryz.prog.cellsOf 5=1 by kernel_rfl) hf with ⟨hcs,hx⟩ | ⟨a,len',cap',zs,hcs,_,hl,hm,hz,hx,hcell,hwz⟩
 ·simp [Value.cells] at hcs
  obtain ⟨rfl,rfl,rfl⟩:=hcs;exact ⟨none,0,0,rfl,ZZj _,fun _=>⟨by omega,fun h=>absurd h (by omega)⟩⟩
 ·simp [Value.cells] at hcs
  obtain ⟨rfl,rfl,rfl⟩:=hcs;refine ⟨some a,ln,cap,rfl,Nat.le_trans hl hm,fun h=>⟨h,fun h0=>?_⟩⟩;have hzl:ln<=zs.length:=by rw [hz];split <;> omega
  have g0:=hcell 0 (by omega);obtain ⟨b,off,spot⟩:=a;have hspot:spot=none:=by simpa [Addr.add] using World.cell?_spot g0
  subst hspot;refine ⟨b,off,rfl,by have:=World.block_lt_of_cell? W _ g0;simpa [Addr.add] using this,fun i hi=>⟨zs.getD i 0,?_,by have:=range_u8 hwz i;simpa [List.getD] using this⟩⟩;have:=hcell i (by omega);by_cases hi0:i=0
  ·subst hi0;simpa [Addr.add] using this
  ·simpa [Addr.add,hi0] using this
end Go.Proofs.YthchmdmncmioiaaGreatDoor
