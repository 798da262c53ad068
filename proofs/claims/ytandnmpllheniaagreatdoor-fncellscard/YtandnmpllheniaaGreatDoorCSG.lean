/-
 Parts.
-/
import Derived.Test.YtandnmpllheniaaGreatDoorCSA
import Derived.Test.YtandnmpllheniaaGreatDoorCRE
set_option linter.all false
set_option maxHeartbeats 8000000
namespace Go.Proofs.YtandnmpllheniaaGreatDoor
open Go.ChangeShapes Go.WideShapes Go.ChangeAt Go.RowKit Go.PlainAid Go.Lib
set_option maxRecDepth 10000
theorem Qmc {w w':World} {c s:Nat} {b:Obj} (h:w.heap[c]?=some b) (hg:w.grownBy w' (some s)) (hn:c≠s):w'.heap[c]?=some b:=
 (hg.block c (ZZc.1 h).1 (fun e=>by cases e;exact hn rfl)).trans h
structure DBx (W w0:World) (K:Nat) (ao:Option Addr) (ln cap:Nat) (wr:World) (c:Nat) (nm:ByteArray) (ax:Option Addr) (n cp:Nat) (L:List Ce):Prop where
 f:DSf W w0 K ao ln cap K wr nm ax n cp L
 row:wr.heap[c]?=some (.cells #[.string nm,.slice ax n cp] 25 (0,0))
 hc:K<c
 h0:K<w0.heap.size
section
variable {W w0:World} {K:Nat} {ao:Option Addr} {ln cap:Nat} {wr:World} {c:Nat} {nm:ByteArray} {ax:Option Addr} {n cp:Nat} {L:List Ce}
theorem DBx.step (k:DBx W w0 K ao ln cap wr c nm ax n cp L) {w1:World} (hS:Src W K ao ln cap K w1) (hg:wr.grownBy w1 (some K)):DBx W w0 K ao ln cap w1 c nm ax n cp L:=
 ⟨k.f.step hS hg,Qmc k.row hg (by have:=k.hc;omega),k.hc,k.h0⟩
theorem DSf.box (k:DSf W w0 K ao ln cap K wr nm ax n cp L):DBx W w0 K ao ln cap (wr.alloc (.cells #[.string nm,.slice ax n cp] 25)) wr.heap.size nm ax n cp L:=by
 have a1:Below wr.heap.size wr (wr.alloc (.cells #[.string nm,.slice ax n cp] 25)):=(ZZb _ _).alloc (ZZa _) _;have h0:=k.lt;have h1:=k.gr.size;exact ⟨k.step (Qbd k.src a1) ⟨a1.os,a1.tape,a1.output,a1.size,fun j hj _=>a1.block j hj⟩,ZZk wr _,by omega,k.lt⟩
end
structure DCe (w w':World) (ax:Option Addr) (n cp:Nat) (L:List Ce):Prop where
 own:OwnC w' w.heap.size (.slice ax n cp) L
 ag:∀ c∈L,AgO w' w.heap.size c.g c.p
 q:CeS L
 hn:L.length=n
 len:n<=61
theorem DCe.sh {w w':World} {ax:Option Addr} {n cp:Nat} {L:List Ce} (k:DCe w w' ax n cp L):ShI w' ax n L:=
 ⟨k.hn,by have:=k.len;omega,k.q.ok,k.q.sm,k.q.ss,fun c hc=>(k.ag c hc).plgX,OwnC.at k.own (fun c hc=>(k.ag c hc).at)⟩
theorem QpY {w X:World} {k:Nat} {ax:Option Addr} {n cp:Nat} {L:List Ce} (q:OwnC X (w.heap.size+k) (.slice ax n cp) L/\∀ d∈L,AgO X (w.heap.size+k) d.g d.p) (s:CeS L) (hn:L.length=n) (len:n<=61):DCe w X ax n cp L:=⟨q.1.le (by omega),fun d hd=>(q.2 d hd).le (by omega),s,hn,len⟩
theorem fdSh (a:ByteArray) (ax:Option Addr) (n cp:Nat) (w:World):(Instr.field 25 (.agg #[.string a,.slice ax n cp]) 1).run Tryz.prog w=.ok (.slice ax n cp) w:=by kernel_rfl
theorem QfK {w:World} {B r j:Nat} {v:Value} {L:List Ce} (hr:r<B) (u:Value) (h:OwnC w B v L/\∀ c∈L,AgO w B c.g c.p):OwnC (w.setCell ⟨r,j,none⟩ u) B v L/\∀ c∈L,AgO (w.setCell ⟨r,j,none⟩ u) B c.g c.p:=
 ⟨h.1.setNe hr u,fun c hc=>(h.2 c hc).below hr u⟩
theorem QdH {p:Prop} (h:p):p:=h
theorem Qhn {w:World} {ln cap:Nat} {ao:Option Addr} (hc:QbD w w.heap.size ao ln) :
  Calls Tryz.prog 7 #[.slice ao ln cap] w fun e w'=>∃ (nm:ByteArray) (ax:Option Addr) (n cp:Nat) (L:List Ce) (win:Int) (x:Sx),e=.returned (.tuple #[.agg #[.string nm,.slice ax n cp],.int .i64 win,.agg (Qaz x)])/\DCe w w' ax n cp L/\nm.size<=1/\x.Ok/\Below w.heap.size w w':=by
 have a0:Below w.heap.size w ((w.alloc (.cells #[.string ⟨#[]⟩,.slice none 0 0] 25)).alloc (.cells #[.int .i64 0,.string ⟨#[]⟩,.int .i64 0,.string ⟨#[]⟩,.int .u64 0,.bool false,.int .i64 0] 28)):=((Below.refl _ _).alloc (Nat.le_refl _) _).alloc (by simp) _;have HC:=Qaa (QjF (B:=((w.alloc (.cells #[.string ⟨#[]⟩,.slice none 0 0] 25)).alloc (.cells #[.int .i64 0,.string ⟨#[]⟩,.int .i64 0,.string ⟨#[]⟩,.int .u64 0,.bool false,.int .i64 0] 28)).heap.size) hc a0 (ZZa _) a0.size);have aK:((w.alloc (.cells #[.string ⟨#[]⟩,.slice none 0 0] 25)).alloc (.cells #[.int .i64 0,.string ⟨#[]⟩,.int .i64 0,.string ⟨#[]⟩,.int .u64 0,.bool false,.int .i64 0] 28)).heap[w.heap.size]?=some (.cells #[.string ⟨#[]⟩,.slice none 0 0] 25 (0,0)):=((Below.refl (w.alloc (.cells #[.string ⟨#[]⟩,.slice none 0 0] 25)).heap.size _).alloc (Nat.le_refl _) _).block w.heap.size (by simp) |>.trans (heap_alloc_new w _)
 have aL:((w.alloc (.cells #[.string ⟨#[]⟩,.slice none 0 0] 25)).alloc (.cells #[.int .i64 0,.string ⟨#[]⟩,.int .i64 0,.string ⟨#[]⟩,.int .u64 0,.bool false,.int .i64 0] 28)).heap[w.heap.size+1]?=some (.cells #[.int .i64 0,.string ⟨#[]⟩,.int .i64 0,.string ⟨#[]⟩,.int .u64 0,.bool false,.int .i64 0] 28 (0,0)):=by
  have:=ZZk (w.alloc (.cells #[.string ⟨#[]⟩,.slice none 0 0] 25)) (.cells #[.int .i64 0,.string ⟨#[]⟩,.int .i64 0,.string ⟨#[]⟩,.int .u64 0,.bool false,.int .i64 0] 28);have e:(w.alloc (.cells #[.string ⟨#[]⟩,.slice none 0 0] 25)).heap.size=w.heap.size+1:=by simp
  rw [e] at this;exact this
 have ay:=Qaa aK;have aw:=Qaa aL;have aB:=Qaa a0;have aM:((w.alloc (.cells #[.string ⟨#[]⟩,.slice none 0 0] 25)).alloc (.cells #[.int .i64 0,.string ⟨#[]⟩,.int .i64 0,.string ⟨#[]⟩,.int .u64 0,.bool false,.int .i64 0] 28)).heap.size=w.heap.size+2:=by simp
 have az:=Qaa aM;clear hc a0 aM aK aL;go_enter Tryz.func7,Tryz.ntmps7;go_wp2_with fail;generalize ((w.alloc (.cells #[.string ⟨#[]⟩,.slice none 0 0] 25)).alloc (.cells #[.int .i64 0,.string ⟨#[]⟩,.int .i64 0,.string ⟨#[]⟩,.int .u64 0,.bool false,.int .i64 0] 28))=W0 at HC ay aw aB az ⊢;refine (QjZ (K:=W0.heap.size) _ _ _ _ rfl HC).mono ?_;rintro e w1 ⟨rfl,aG⟩;have aJ:=Qaa aG;clear aG;go_wp2_with fail;refine (QfL HC aJ).mono ?_;rintro e w2 ⟨nm,ax,n,cp,L,rfl,hf⟩;have aj:=Qaa hf.box;clear hf aJ;go_wp2_with fail;generalize w2.alloc (.cells #[.string nm,.slice ax n cp] 25)=W2 at aj ⊢;generalize w2.heap.size=c at aj ⊢;refine (c_n HC aj.out.f.src 4 (by omega)).mono ?_;rintro e w3 ⟨aC,rfl,_,_,_,aF,aE⟩;have aA:=Qaa (aj.out.step aF aE);clear aF aE aj;go_wp2_with fail;refine (Qio HC aA.out.f.src 20 (by omega)).mono ?_;rintro e w4 ⟨bb,rfl,aI,aD⟩;have au:=Qaa (aA.out.step aI aD);clear aI aD aA;go_upto_if 15 with fail
 go_cut [7] (fun kv w'=>∃ win:Int,kv=.int .i64 win/\Hid (DBx W0 w1 W0.heap.size ao ln cap w' c nm ax n cp L))
 case first=>
  cases bb with
  | false=>
   go_wp2;go_meet;exact ⟨aC,rfl,au⟩
  | true=>
   go_wp2_with fail;refine (Qqi HC au.out.f.src).mono ?_;rintro e w5 ⟨v5,rfl,_,aq,ah⟩;have aN:=Qaa (au.out.step aq ah);clear aq ah;go_wp2;go_meet;exact ⟨v5,rfl,aN⟩
 case rest=>
 obtain ⟨win,rfl,av⟩:=hcut;obtain ⟨w5,aH⟩:∃ X,wc=X:=⟨_,rfl⟩;rw [aH] at av ⊢;clear aH au;go_wp2_with fail;refine (Qio HC av.out.f.src 15 (by omega)).mono ?_;rintro e W5 ⟨b2,rfl,aq,ah⟩;have HB:=Qaa (av.out.step aq ah);clear aq ah av
 cases b2 with
 | true=>
  go_wp2_with fail;have ac:Hid (DBx W0 w1 W0.heap.size ao ln cap W5.drew c nm ax n cp L):=HB.out.step (Qc7 (k:=1) HB.out.f.src) (Qbu W5 1 _);refine Qaj (fun W1=>W1.heap[c]?=some (.cells #[.string nm,.slice ax n cp] 25 (0,0))) 6 (by kernel_rfl) ?_;generalize W5.drew=X0 at ac ⊢;refine tkL 0 (.agg #[.string nm,.slice ax n cp]) ac.out.row (fun W hW=>?_) ?_
  ·have x0:=Qba hW 0 rfl
   have x1:=Qba hW 1 rfl;clear hW;go_simp
  refine tkS 1 (.int .i64 win) ac.out.row ?_;refine tkS 2 (.pointer (some ⟨W0.heap.size,0,none⟩)) ac.out.row ?_;simp only [sX];refine onE 3 fun K hK=>?_;go_simp;refine (Qeu HC ac.out.f.src).mono ?_;rintro e w6 ⟨x,rfl,ox,al,ai⟩;have aa:=Qaa (ac.out.step al ai);have OX:=Qaa ox;clear al ai ox ac;dsimp only;refine gK hK aa.out.row ?_
  try simp only [sX]
  have z:=az.out;have ad:=Qaa ((aa.out.f.src.bel.block w.heap.size (by omega)).trans ay);have am:=Qaa ((aa.out.f.src.bel.block (w.heap.size+1) (by omega)).trans aw);have an:=Qaa (Qac aB aa.out.f.src.bel)
  have ak:Hid (OwnC w6 (w.heap.size+2) (.slice ax n cp) L/\∀ d∈L,AgO w6 (w.heap.size+2) d.g d.p):=by
   have h1:=aa.out.h0;exact Qaa ⟨aa.out.f.own.le (by omega),fun d hd=>(aa.out.f.ag d hd).le (by omega)⟩
  have SP:=Qaa aa.out.f.q;have SN:=Qaa (And.intro aa.out.f.hn (And.intro aa.out.f.len aa.out.f.nmz))
  have ab:Hid (((w6.setCell ⟨w.heap.size,0,none⟩ (.string nm)).setCell ⟨w.heap.size,1,none⟩ (.slice ax n cp)).heap[c]?=some (.cells #[.string nm,.slice ax n cp] 25 (0,0))):=by
   have h1:=aa.out.hc;rw [QdH (Below.heap_setCell _ _ _ _ (by simp;omega)),QdH (Below.heap_setCell _ _ _ _ (by simp;omega))];exact Qaa aa.out.row
  clear aa;have z0:=Qad ad 0 rfl;have z1:=Qad ad 1 rfl;have f0:=fzR 0 ad;have f1:=fzR 1 ad;refine onE 4 fun K hK=>?_;go_simp;have r1:(w6.setCell ⟨w.heap.size,0,none⟩ (.string nm)).heap[w.heap.size]?=some (.cells #[.string nm,.slice none 0 0] 25 (0,0)):=ZZl w6 _ 0 _ _ _ ad;have af:Hid (((w6.setCell ⟨w.heap.size,0,none⟩ (.string nm)).setCell ⟨w.heap.size,1,none⟩ (.slice ax n cp)).heap[w.heap.size]?=some (.cells #[.string nm,.slice ax n cp] 25 (0,0))):=ZZl _ _ 1 _ _ _ r1
  have ae:Hid (((w6.setCell ⟨w.heap.size,0,none⟩ (.string nm)).setCell ⟨w.heap.size,1,none⟩ (.slice ax n cp)).heap[w.heap.size+1]?=some (.cells #[.int .i64 0,.string ⟨#[]⟩,.int .i64 0,.string ⟨#[]⟩,.int .u64 0,.bool false,.int .i64 0] 28 (0,0))):=by
   rw [QdH (Below.heap_setCell _ _ _ _ (by simp)),QdH (Below.heap_setCell _ _ _ _ (by simp))];exact am
  have ar:Hid (Below w.heap.size w ((w6.setCell ⟨w.heap.size,0,none⟩ (.string nm)).setCell ⟨w.heap.size,1,none⟩ (.slice ax n cp))):=(an.out.setCell (by simp) _).setCell (by simp) _;have ap:=Qaa (QfK (j:=1) (show w.heap.size<w.heap.size+2 by omega) (.slice ax n cp) (QfK (j:=0) (show w.heap.size<w.heap.size+2 by omega) (.string nm) ak));clear z0 z1 f0 f1 r1 ad am an ak;refine gK hK ab.out ?_
  try simp only [sX]
  generalize (w6.setCell ⟨w.heap.size,0,none⟩ (.string nm)).setCell ⟨w.heap.size,1,none⟩ (.slice ax n cp)=w7 at af ae ar ap ab ⊢;refine onE 5 fun K hK=>?_;go_simp;refine gK hK ab.out ?_
  try simp only [sX]
  obtain ⟨y0,y1,y2,y3,y4,y5,y6⟩:=cA7 ae;obtain ⟨f0,f1,f2,f3,f4,f5,f6⟩:=fA7 ae;refine onE 6 fun K hK=>?_;go_simp;refine hK.out _ _ (fun h=>absurd rfl h) ?_
  try simp only [sX]
  refine dnE ?_ _;have z0:=Qba af 0 rfl;have z1:=Qba af 1 rfl;go_wp2;refine bodyPost_ret (v:=.tuple #[.agg #[.string nm,.slice ax n cp],.int .i64 win,.agg (Qaz x)]) (by simp [results,Tryz.results7,go_sem,z0,z1,y0,y1,y2,y3,y4,y5,y6]) rfl ⟨nm,ax,n,cp,L,win,x,rfl,?_,SN.out.2.2,OX,?_⟩
  ·refine QpY (k:=2) ?_ SP SN.out.1 SN.out.2.1
   repeat (refine QfK (by omega) _ ?_)
   exact ap.out
  ·repeat (refine Below.setCell ?_ (by simp) _)
   exact ar.out
 | false=>
  go_wp2_with fail;have ac:Hid (DBx W0 w1 W0.heap.size ao ln cap W5.drew c nm ax n cp L):=HB.out.step (Qc7 (k:=1) HB.out.f.src) (Qbu W5 1 _);refine Qaj (fun W1=>W1.heap[c]?=some (.cells #[.string nm,.slice ax n cp] 25 (0,0))) 6 (by kernel_rfl) ?_;generalize W5.drew=X0 at ac ⊢;refine tkL 0 (.agg #[.string nm,.slice ax n cp]) ac.out.row (fun W hW=>?_) ?_
  ·have x0:=Qba hW 0 rfl
   have x1:=Qba hW 1 rfl;clear hW;go_simp
  refine tkS 1 (.int .i64 win) ac.out.row ?_;refine tkS 2 (.pointer (some ⟨W0.heap.size,0,none⟩)) ac.out.row ?_;simp only [sX];refine onE 3 fun K hK=>?_;go_simp;refine (Qc9 HC ac.out.f.src).mono ?_;rintro e w6 ⟨x,rfl,ox,al,ai⟩;have aa:=Qaa (ac.out.step al ai);have OX:=Qaa ox;clear al ai ox ac;dsimp only;refine gK hK aa.out.row ?_
  try simp only [sX]
  have z:=az.out;have ad:=Qaa ((aa.out.f.src.bel.block w.heap.size (by omega)).trans ay);have am:=Qaa ((aa.out.f.src.bel.block (w.heap.size+1) (by omega)).trans aw);have an:=Qaa (Qac aB aa.out.f.src.bel)
  have ak:Hid (OwnC w6 (w.heap.size+2) (.slice ax n cp) L/\∀ d∈L,AgO w6 (w.heap.size+2) d.g d.p):=by
   have h1:=aa.out.h0;exact Qaa ⟨aa.out.f.own.le (by omega),fun d hd=>(aa.out.f.ag d hd).le (by omega)⟩
  have SP:=Qaa aa.out.f.q;have SN:=Qaa (And.intro aa.out.f.hn (And.intro aa.out.f.len aa.out.f.nmz))
  have ab:Hid (((w6.setCell ⟨w.heap.size,0,none⟩ (.string nm)).setCell ⟨w.heap.size,1,none⟩ (.slice ax n cp)).heap[c]?=some (.cells #[.string nm,.slice ax n cp] 25 (0,0))):=by
   have h1:=aa.out.hc;rw [QdH (Below.heap_setCell _ _ _ _ (by simp;omega)),QdH (Below.heap_setCell _ _ _ _ (by simp;omega))];exact Qaa aa.out.row
  clear aa;have z0:=Qad ad 0 rfl;have z1:=Qad ad 1 rfl;have f0:=fzR 0 ad;have f1:=fzR 1 ad;refine onE 4 fun K hK=>?_;go_simp;have r1:(w6.setCell ⟨w.heap.size,0,none⟩ (.string nm)).heap[w.heap.size]?=some (.cells #[.string nm,.slice none 0 0] 25 (0,0)):=ZZl w6 _ 0 _ _ _ ad;have af:Hid (((w6.setCell ⟨w.heap.size,0,none⟩ (.string nm)).setCell ⟨w.heap.size,1,none⟩ (.slice ax n cp)).heap[w.heap.size]?=some (.cells #[.string nm,.slice ax n cp] 25 (0,0))):=ZZl _ _ 1 _ _ _ r1
  have ae:Hid (((w6.setCell ⟨w.heap.size,0,none⟩ (.string nm)).setCell ⟨w.heap.size,1,none⟩ (.slice ax n cp)).heap[w.heap.size+1]?=some (.cells #[.int .i64 0,.string ⟨#[]⟩,.int .i64 0,.string ⟨#[]⟩,.int .u64 0,.bool false,.int .i64 0] 28 (0,0))):=by
   rw [QdH (Below.heap_setCell _ _ _ _ (by simp)),QdH (Below.heap_setCell _ _ _ _ (by simp))];exact am
  have ar:Hid (Below w.heap.size w ((w6.setCell ⟨w.heap.size,0,none⟩ (.string nm)).setCell ⟨w.heap.size,1,none⟩ (.slice ax n cp))):=(an.out.setCell (by simp) _).setCell (by simp) _;have ap:=Qaa (QfK (j:=1) (show w.heap.size<w.heap.size+2 by omega) (.slice ax n cp) (QfK (j:=0) (show w.heap.size<w.heap.size+2 by omega) (.string nm) ak));clear z0 z1 f0 f1 r1 ad am an ak;refine gK hK ab.out ?_
  try simp only [sX]
  generalize (w6.setCell ⟨w.heap.size,0,none⟩ (.string nm)).setCell ⟨w.heap.size,1,none⟩ (.slice ax n cp)=w7 at af ae ar ap ab ⊢;refine onE 5 fun K hK=>?_;go_simp;refine gK hK ab.out ?_
  try simp only [sX]
  obtain ⟨y0,y1,y2,y3,y4,y5,y6⟩:=cA7 ae;obtain ⟨f0,f1,f2,f3,f4,f5,f6⟩:=fA7 ae;refine onE 6 fun K hK=>?_;go_simp;refine hK.out _ _ (fun h=>absurd rfl h) ?_
  try simp only [sX]
  refine dnE ?_ _;have z0:=Qba af 0 rfl;have z1:=Qba af 1 rfl;go_wp2;refine bodyPost_ret (v:=.tuple #[.agg #[.string nm,.slice ax n cp],.int .i64 win,.agg (Qaz x)]) (by simp [results,Tryz.results7,go_sem,z0,z1,y0,y1,y2,y3,y4,y5,y6]) rfl ⟨nm,ax,n,cp,L,win,x,rfl,?_,SN.out.2.2,OX,?_⟩
  ·refine QpY (k:=2) ?_ SP SN.out.1 SN.out.2.1
   repeat (refine QfK (by omega) _ ?_)
   exact ap.out
  ·repeat (refine Below.setCell ?_ (by simp) _)
   exact ar.out
theorem Qf7 {w:World} {ln cap:Nat} {ao:Option Addr} (hc:QbD w w.heap.size ao ln) :
  Calls Tryz.prog 16 #[.slice ao ln cap] w fun e w'=>∃ (ax:Option Addr) (n cp:Nat) (L:List Ce) (bx:Option Addr) (m cq:Nat) (M:List Ce),e=.returned (.tuple #[.slice ax n cp,.slice bx m cq])/\DCe w w' ax n cp L/\DCe w w' bx m cq M/\Below w.heap.size w w':=by
 have HC:=Qaa hc;clear hc;go_enter Tryz.func16,Tryz.ntmps16;go_wp2_with fail;refine (Qhd ao ln cap w HC).mono ?_;rintro e w1 ⟨rfl,ab⟩;have ac:=Qaa ab;clear ab;go_wp2_with fail;refine (QfL HC ac).mono ?_;rintro e w2 ⟨nm,ax,n,cp,L,rfl,hf⟩;have HF:=Qaa hf;clear hf;have ae:=fdSh nm ax n cp;go_wp2_with fail;refine (QfL HC HF.out.src).mono ?_;rintro e w3 ⟨ad,bx,m,cq,M,rfl,hf⟩;have HG:=Qaa hf;have aa:=Qaa (HF.out.step hf.src hf.gr);clear hf ae;have af:=fdSh ad bx m cq;go_wp2;go_ret2;have z1:=ac.out.bel.size;have z2:=HF.out.src.bel.size;exact ⟨ax,n,cp,L,bx,m,cq,M,rfl,⟨aa.out.own.le (by omega),fun d hd=>(aa.out.ag d hd).le (by omega),aa.out.q,aa.out.hn,aa.out.len⟩,⟨HG.out.own.le (by omega),fun d hd=>(HG.out.ag d hd).le (by omega),HG.out.q,HG.out.hn,HG.out.len⟩,HG.out.src.bel⟩
def AtK (L:List Ce) (n:Int) (s:ByteArray) (k:Int) (g:Ag):Prop:=(n,s,g)∈L.map Ce.key∨(¬ Qds L n s/\g=QaN k)
theorem AtK.one {L:List Ce} {n:Int} {s:ByteArray} {k:Int} {g g':Ag} (a:AscC L) (h:AtK L n s k g) (h':AtK L n s k g'):g=g':=by
 rcases h with h | ⟨h,rfl⟩ <;> rcases h' with q | ⟨q,rfl⟩
 ·exact Qe9 a h q
 ·exact absurd (hasK_mem.2 ⟨_,h⟩) q
 ·exact absurd (hasK_mem.2 ⟨_,q⟩) h
 ·rfl
structure PtY (nm:ByteArray) (L:List Ce) (win:Int) (x:Sx) (R:List Ce):Prop where
 c:shB nm L=true/\x.B=true/\Qfq win=true
 p:PuA L win x R 0
 e:∃ v,AtK L win x.se x.k v/\AgG x.k v/\PtL L win x.se (QoB v x) R
theorem PtA.yes {nm nm':ByteArray} {L R:List Ce} {win code:Int} {x:Sx} (h:PtA nm L win x nm' R code) (q:CnQ L) (e:code=0):PtY nm L win x R:=by
 cases h with
 | form=>exact absurd e (by decide)
 | kind=>exact absurd e (by decide)
 | full=>exact absurd e (by decide)
 | there c o R h hc k1 k2 hk hp hR=>
  refine ⟨h,.there c o _ hc k1 k2 hk hp hR,c.g,.inl (mem_key.2 ⟨c,hc,k1,k2,rfl⟩),⟨q.rt c hc,q.ok c hc,hk⟩,?_⟩;rw [<- Qnk hp];exact hR
 | new o R h hn hl hp hR=>
  refine ⟨h,.new o _ hn hl hp hR,QaN x.k,.inr ⟨hn,rfl⟩,?_,by rw [<- Qnk hp];exact hR⟩;obtain ⟨a,b⟩:=(Qbo h.2.1).1;exact QoJ a b
theorem Qpn {nm:ByteArray} {L:List Ce} (h:shB nm L=true):Qa3 nm=true:=by
 unfold shB at h;simp only [Bool.and_eq_true] at h;exact h.1
section
variable {nm n1 n2:ByteArray} {a b m P Q Z:List Ce} {win cp cq:Int} {x:Sx}
theorem Qjy (ra:csR a=true) (rb:csR b=true) (h:MgA a b m) (hne:m≠[]):∃ M,Mgs a b M/\m.map Ce.key=M.map Ce.key:=by
 rcases h.cases ra rb with ⟨_,M,q,e⟩ | ⟨_,e⟩
 ·refine ⟨M,q,?_⟩
  by_cases hl:M.length<=60
  ·rw [if_pos hl] at e;exact e
  ·rw [if_neg hl] at e;exact absurd e hne
 ·exact absurd e hne
theorem QpN {M:List Ce} (mm:Mgs a b M) (aa:AscC a) (ab:AscC b) (em:m.map Ce.key=M.map Ce.key) (n:Int) (s:ByteArray) (g:Ag):(n,s,g)∈m.map Ce.key↔((n,s,g)∈a.map Ce.key/\¬ Qds b n s)∨((n,s,g)∈b.map Ce.key/\¬ Qds a n s)∨∃ a' b',(n,s,a')∈a.map Ce.key/\(n,s,b')∈b.map Ce.key/\g=QmF a' b':=by
 rw [em];exact Qdp mm aa ab n s g
theorem QqM (ra:csR a=true) (rb:csR b=true) (qa:CnQ a) (qb:CnQ b) (hl:a.length+b.length<60) (h:MgA a b m) (hne:m≠[]) (p:PtA nm a win x n1 P cp) (q:PtA nm m win x n2 Q cq) (hp:cp≠0):cq≠0:=by
 intro e;obtain ⟨M,mm,em⟩:=Qjy ra rb h hne;have aa:=(csR_iff.1 ra).2.2;have ab:=(csR_iff.1 rb).2.2;have qm:CnQ m:=(mm.cnq qa qb).keys em;obtain ⟨⟨s1,s2,s3⟩,_,v,hv,gv,_⟩:=q.yes qm e;have sa:shB nm a=true:=by unfold shB;rw [Qpn s1,ra];rfl
 cases p with
 | form f=>exact f ⟨sa,s2,s3⟩
 | there=>exact hp rfl
 | new=>exact hp rfl
 | full f hn hl'=>omega
 | kind c f hc k1 k2 hk=>
  have ac:(win,x.se,c.g)∈a.map Ce.key:=mem_key.2 ⟨c,hc,k1,k2,rfl⟩;have hA:Qds a win x.se:=hasK_mem.2 ⟨_,ac⟩
  have ad:∀ g,(win,x.se,g)∈m.map Ce.key->g.k=c.g.k:=fun g hg=>by
   rw [em] at hg;rcases (Qdp mm aa ab _ _ _).1 hg with ⟨r,_⟩ | ⟨_,r⟩ | ⟨a',b',r1,r2,rfl⟩
   ·rw [Qe9 aa r ac]
   ·exact absurd hA r
   ·have kk:=QjJ mm aa ab _ _ _ _ r1 r2
    have g1:=Qgz ra qa.ok r1;have g2:=Qgz rb qb.ok r2;rw [(g1.mrg (kk ▸ g2)).k,Qe9 aa r1 ac]
  rcases hv with r | ⟨r,_⟩
  ·exact hk ((ad v r).symm.trans gv.k)
  ·have:Qds m win x.se:=by
    rw [hasK_mem];by_cases hB:Qds b win x.se
    ·obtain ⟨b',ae⟩:=hasK_mem.1 hB
     exact ⟨_,by rw [em];exact (Qdp mm aa ab _ _ _).2 (.inr (.inr ⟨c.g,b',ac,ae,rfl⟩))⟩
    ·exact ⟨_,by rw [em];exact (Qdp mm aa ab _ _ _).2 (.inl ⟨ac,hB⟩)⟩
   exact r this
theorem QpR (ra:csR a=true) (rb:csR b=true) (qa:CnQ a) (qb:CnQ b) (ox:x.Ok) (h:MgA a b m) (hne:m≠[]) (p:PtA nm a win x n1 P cp) (q:PtA nm m win x n2 Q cq) (hp:cp=0) (hq:cq=0) (z:MgA P b Z):Z.map Ce.key=Q.map Ce.key:=by
 obtain ⟨M,mm,em⟩:=Qjy ra rb h hne;have aa:=(csR_iff.1 ra).2.2;have ab:=(csR_iff.1 rb).2.2;have qm:CnQ m:=(mm.cnq qa qb).keys em;obtain ⟨⟨_,s2,s3⟩,pp,va,ao,af,lP⟩:=p.yes qa hp;obtain ⟨⟨t1,_,_⟩,pq,vm,ai,ar,lQ⟩:=q.yes qm hq;have rm:=Qer t1;have am:=(csR_iff.1 rm).2.2;obtain ⟨rP,qP⟩:=Qiu ra qa ox s2 s3 pp;obtain ⟨rQ,qQ⟩:=Qiu rm qm ox s2 s3 pq;have aP:=(csR_iff.1 rP).2.2;have aQ:=(csR_iff.1 rQ).2.2;have sx:SxG x.k x:=⟨ox,s2,rfl⟩;have ad:=QpN mm aa ab em
 have ac:∀ g,(win,x.se,g)∈P.map Ce.key↔g=QoB va x:=fun g=>by
  rw [QeE lP];constructor
  ·rintro (r | ⟨_,r⟩)
   ·simp only [Prod.mk.injEq,true_and] at r;exact r
   ·exact absurd ⟨rfl,rfl⟩ r
  ·rintro rfl;exact .inl rfl
 have ak:∀ g,(win,x.se,g)∈Q.map Ce.key↔g=QoB vm x:=fun g=>by
  rw [QeE lQ];constructor
  ·rintro (r | ⟨_,r⟩)
   ·simp only [Prod.mk.injEq,true_and] at r;exact r
   ·exact absurd ⟨rfl,rfl⟩ r
  ·rintro rfl;exact .inl rfl
 have ae:∀ n s g,¬ (n=win/\s=x.se)->((n,s,g)∈P.map Ce.key↔(n,s,g)∈a.map Ce.key):=fun n s g hn=>by
  rw [QeE lP];constructor
  ·rintro (r | ⟨r,_⟩)
   ·simp only [Prod.mk.injEq] at r;exact absurd ⟨r.1,r.2.1⟩ hn
   ·exact r
  ·exact fun r=>.inr ⟨r,hn⟩
 have ah:∀ n s g,¬ (n=win/\s=x.se)->((n,s,g)∈Q.map Ce.key↔(n,s,g)∈m.map Ce.key):=fun n s g hn=>by
  rw [QeE lQ];constructor
  ·rintro (r | ⟨r,_⟩)
   ·simp only [Prod.mk.injEq] at r;exact absurd ⟨r.1,r.2.1⟩ hn
   ·exact r
  ·exact fun r=>.inr ⟨r,hn⟩
 have aj:∀ n s,¬ (n=win/\s=x.se)->(Qds P n s↔Qds a n s):=fun n s hn=>by
  rw [hasK_mem,hasK_mem];exact ⟨fun ⟨g,r⟩=>⟨g,(ae n s g hn).1 r⟩,fun ⟨g,r⟩=>⟨g,(ae n s g hn).2 r⟩⟩
 -- the Agg of the key
 have an:¬ Qds b win x.se->vm=va:=fun hB=>by
  refine AtK.one am ai ?_;rcases ao with r | ⟨r,e⟩
  ·exact .inl ((ad _ _ _).2 (.inl ⟨r,hB⟩))
  ·refine .inr ⟨fun r'=>?_,e⟩
   obtain ⟨g,r'⟩:=hasK_mem.1 r';rcases (ad _ _ _).1 r' with ⟨u,_⟩ | ⟨u,_⟩ | ⟨a',b',u,_,_⟩
   ·exact r (hasK_mem.2 ⟨_,u⟩)
   ·exact hB (hasK_mem.2 ⟨_,u⟩)
   ·exact r (hasK_mem.2 ⟨_,u⟩)
 have al:∀ b',(win,x.se,b')∈b.map Ce.key->AgG x.k b'/\vm=QmF va b':=fun b' ag=>by
  have gb:=Qgz rb qb.ok ag;rcases ao with r | ⟨r,e⟩
  ·have kk:=QjJ mm aa ab _ _ _ _ r ag
   have g':AgG x.k b':=⟨gb.r,gb.o,kk.symm.trans af.k⟩;exact ⟨g',AtK.one am ai (.inl ((ad _ _ _).2 (.inr (.inr ⟨va,b',r,ag,rfl⟩))))⟩
  ·have aq:(win,x.se,b')∈m.map Ce.key:=(ad _ _ _).2 (.inr (.inl ⟨ag,r⟩))
   have ev:vm=b':=AtK.one am ai (.inl aq);have kb:b'.k=x.k:=by rw [<- ev];exact ar.k
   refine ⟨⟨gb.r,gb.o,kb⟩,?_⟩;have:=QgO (QaN b'.k) b';rw [ev,e,<- kb];exact (Qon gb.o gb.r this).symm
 have ap:KA P b:=fun n s g g' hg hg'=>by
  by_cases hn:n=win/\s=x.se
  ·obtain ⟨rfl,rfl⟩:=hn
   rw [(ac g).1 hg,(af.put sx).k,(al g' hg').1.k]
  ·exact QjJ mm aa ab n s g g' ((ae n s g hn).1 hg) hg'
 have key:∀ M2,Mgs P b M2->M2.map Ce.key=Q.map Ce.key:=fun M2 m2=>by
  refine QkF (m2.asc aP) aQ (fun ⟨n,s,g⟩=>?_);rw [Qdp m2 aP ab];by_cases hn:n=win/\s=x.se
  ·obtain ⟨rfl,rfl⟩:=hn
   have hP:Qds P n x.se:=hasK_mem.2 ⟨_,(ac _).2 rfl⟩;rw [ak];constructor
   ·rintro (⟨r,hB⟩ | ⟨_,r⟩ | ⟨a',b',r1,r2,r3⟩)
    ·rw [(ac g).1 r,an hB]
    ·exact absurd hP r
    ·obtain ⟨gb,ev⟩:=al b' r2
     rw [r3,(ac a').1 r1,ev,Qcy (af.put sx) gb,QkQ gb af sx,Qcy gb af]
   ·intro r
    by_cases hB:Qds b n x.se
    ·obtain ⟨b',ag⟩:=hasK_mem.1 hB
     obtain ⟨gb,ev⟩:=al b' ag;exact .inr (.inr ⟨QoB va x,b',(ac _).2 rfl,ag,by rw [r,ev,Qcy (af.put sx) gb,QkQ gb af sx,Qcy gb af]⟩)
    ·exact .inl ⟨(ac g).2 (by rw [r,an hB]),hB⟩
  ·rw [ah n s g hn,ad,aj n s hn]
   simp only [ae n s _ hn]
 rcases z.cases rP rb with ⟨_,M2,m2,e⟩ | ⟨nk,_⟩
 ·have e2:=key M2 m2
  have l2:=QcS e2;have au:=(csR_iff.1 rQ).1;rw [if_pos (by omega)] at e;exact e.trans e2
 ·exact absurd ap nk
end
theorem Qkq (g:Ag):QaF g g=true:=by simp [QaF,Qbc,Qbs]
theorem Qf6:∀ L:List Ce,Qbh L L=true
 | []=>rfl
 | c :: L=>by
  show (Qc5 c c && Qbh L L)=true
  rw [Qf6 L,Bool.and_true];unfold Qc5;rw [Qkq];simp
theorem QgH {L M:List Ce} (k:L.map Ce.key=M.map Ce.key) (l:M.length<=400):csB L M=true:=by
 rw [QqC k rfl];unfold csB;rw [Qf6];simp [l]
theorem Qiv:CnQ []:=⟨by simp,by simp,by simp,by simp⟩
theorem MgA.q {a b R:List Ce} (h:MgA a b R) (qa:csR a=true->CnQ a) (qb:csR b=true->CnQ b):R.length<=60/\CnQ R:=by
 by_cases hr:csR a=true/\csR b=true
 ·rcases h.cases hr.1 hr.2 with ⟨_,M,mm,e⟩ | ⟨_,e⟩
  ·split at e
   ·rename_i hl
    have:=congrArg List.length e;simp at this;exact ⟨by omega,(mm.cnq (qa hr.1) (qb hr.2)).keys e⟩
   ·subst e;exact ⟨by simp,Qiv⟩
  ·subst e;exact ⟨by simp,Qiv⟩
 ·unfold MgA at h
  rw [if_neg hr] at h;subst h;exact ⟨by simp,Qiv⟩
theorem Qnm {w:World} {ao:Option Addr} {n cp:Nat} {R:List Ce} (r:OwnC w 0 (.slice ao n cp) R) (o:CesO w 0 R) (l:R.length=n) (b:R.length<=61) (q:CnQ R):ShI w ao n R:=
 ⟨l,by omega,q.ok,q.sm,fun c hc=>(q.ky c hc).2,fun c hc=>(o.o c hc).plgX,OwnC.at r o.at⟩
theorem MgP.sh {w w':World} {a b:List Ce} {e:Ending} (h:MgP w a b e w') (qa:csR a=true->CnQ a) (qb:csR b=true->CnQ b):∃ ao n cp R,e=.returned (.slice ao n cp)/\MgA a b R/\ShI w' ao n R/\R.length<=60/\CnQ R/\Below w.heap.size w w':=by
 obtain ⟨v,R,rfl,hm,hr,ho,hb⟩:=h;obtain ⟨ao,cp,rfl,_⟩:=hr.form;obtain ⟨l,q⟩:=hm.q qa qb;exact ⟨ao,R.length,cp,R,rfl,hm,Qnm (hr.le (ZZj _)) (ho.le (ZZj _)) rfl (by omega) q,l,q,hb⟩
theorem PtA.qS {nm nm':ByteArray} {L R:List Ce} {win code:Int} {x:Sx} (h:PtA nm L win x nm' R code) (q:csR L=true->CnQ L) (ox:x.Ok):R.length<=60/\CnQ R/\(code=0->csR L=true/\csR R=true/\nm'=nm/\shB nm R=true/\R.length<=L.length+1):=by
 rcases Qlt h with ⟨e,en⟩ | ⟨e,_,eR⟩
 ·subst e
  have hs:shB nm L=true:=by
   cases h with
   | there _ _ _ q=>exact q.1
   | new _ _ q=>exact q.1
  have hL:=Qer hs;obtain ⟨r1,r2,_⟩:=Qfh hL (q hL) ox h rfl;refine ⟨(csR_iff.1 r1).1,r2,fun _=>⟨hL,r1,en,?_,?_⟩⟩
  ·unfold shB at hs ⊢
   simp only [Bool.and_eq_true] at hs ⊢;exact ⟨hs.1,r1⟩
  ·have aa:=(csR_iff.1 hL).2.2
   cases h with
   | there c o R q hc k1 k2 hk hp hR=>
    have e1:=congrArg List.length hR;have e2:=congrArg List.length (Qc1 aa hc);rw [k1,k2] at e2;simp at e1 e2;omega
   | new o R q hn hl hp hR=>
    have e1:=congrArg List.length hR;have e2:=(QfO hn).length_eq;simp at e1 e2;omega
 ·subst eR
  exact ⟨by simp,Qiv,fun z=>absurd z e⟩
structure PtX (w:World) (G:Nat) (nm':ByteArray) (ar:Option Addr) (m c:Nat) (ap:Option Addr) (cq:Nat) (R:List Ce) (code:Int):Prop where
 y:w.heap[G]?=some (.cells #[.string nm',.slice ar m c,.slice ap 0 cq,.int .i64 code] 32 (0,0))
 r:OwnC w 0 (.slice ar m c) R
 o:CesO w 0 R
 l:R.length=m
section
variable {w w':World} {G:Nat} {nm':ByteArray} {ar:Option Addr} {m c:Nat} {ap:Option Addr} {cq:Nat} {R:List Ce} {code:Int}
theorem PtX.past (h:PtX w G nm' ar m c ap cq R code) (hb:Below w.heap.size w w'):PtX w' G nm' ar m c ap cq R code:=
 ⟨(hb.block G (ZZc.1 h.y).1).trans h.y,h.r.past hb,h.o.past hb,h.l⟩
theorem PtX.sh (h:PtX w G nm' ar m c ap cq R code) (l:R.length<=60) (q:CnQ R):ShI w ar m R:=Qnm h.r h.o h.l (by omega) q
theorem PtX.cells (h:PtX w G nm' ar m c ap cq R code):w.cell? ⟨G,0,none⟩=some (.string nm')/\w.cell? ⟨G,1,none⟩=some (.slice ar m c)/\w.cell? ⟨G,3,none⟩=some (.int .i64 code):=⟨Qba h.y 0 rfl,Qba h.y 1 rfl,Qba h.y 3 rfl⟩
end
theorem PtP.box {w w':World} {nm:ByteArray} {L:List Ce} {win:Int} {x:Sx} {e:Ending} (h:PtP w nm L win x e w'):∃ nm' ar m c ap cq R code,e=.returned (.agg #[.string nm',.slice ar m c,.slice ap 0 cq,.int .i64 code])/\PtA nm L win x nm' R code/\PtX (w'.alloc (.cells #[.string nm',.slice ar m c,.slice ap 0 cq,.int .i64 code] 32)) w'.heap.size nm' ar m c ap cq R code/\Below w.heap.size w (w'.alloc (.cells #[.string nm',.slice ar m c,.slice ap 0 cq,.int .i64 code] 32)):=by
 obtain ⟨v,nm',R,code,rfl,ha,⟨⟨vr,vo,rfl,hr,ho,_⟩,hc⟩,hb⟩:=h;obtain ⟨ar,c,rfl,_⟩:=hr.form;obtain ⟨ap,cq,rfl,_⟩:=ho.form;have al:Below w'.heap.size w' (w'.alloc (.cells #[.string nm',.slice ar R.length c,.slice ap 0 cq,.int .i64 code] 32)):=(ZZb _ _).alloc (ZZa _) _;exact ⟨nm',ar,R.length,c,ap,cq,R,code,rfl,ha,⟨ZZk w' _,(hr.past al).le (ZZj _),((CesO.sub hc (List.sublist_append_left R [])).past al).le (ZZj _),rfl⟩,Qac hb al⟩
structure TkX (w:World) (G:Nat) (nm':ByteArray) (ar:Option Addr) (m c:Nat) (ap:Option Addr) (p cq:Nat) (R O:List Ce) (code:Int):Prop where
 y:w.heap[G]?=some (.cells #[.string nm',.slice ar m c,.slice ap p cq,.int .i64 code] 32 (0,0))
 r:OwnC w 0 (.slice ar m c) R
 s:OwnC w 0 (.slice ap p cq) O
 o:CesO w 0 (R ++ O)
 l:R.length=m
 k:O.length=p
section
variable {w w':World} {G:Nat} {nm':ByteArray} {ar:Option Addr} {m c:Nat} {ap:Option Addr} {p cq:Nat} {R O:List Ce} {code:Int}
end
theorem Qo8 (w:World) (nm:ByteArray) (v:Value) (x:Sx):Below w.heap.size w ((w.alloc (.cells #[.string nm,v] 25)).alloc (.cells (Qaz x) 28))/\((w.alloc (.cells #[.string nm,v] 25)).alloc (.cells (Qaz x) 28)).heap[w.heap.size]?=some (.cells #[.string nm,v] 25 (0,0))/\((w.alloc (.cells #[.string nm,v] 25)).alloc (.cells (Qaz x) 28)).heap[w.heap.size+1]?=some (.cells (Qaz x) 28 (0,0)):=by
 have a1:Below w.heap.size w (w.alloc (.cells #[.string nm,v] 25)):=(ZZb _ _).alloc (ZZa _) _;have a2:Below (w.alloc (.cells #[.string nm,v] 25)).heap.size (w.alloc (.cells #[.string nm,v] 25)) ((w.alloc (.cells #[.string nm,v] 25)).alloc (.cells (Qaz x) 28)):=(ZZb _ _).alloc (ZZa _) _;have k2:=ZZk (w.alloc (.cells #[.string nm,v] 25)) (.cells (Qaz x) 28);have e:(w.alloc (.cells #[.string nm,v] 25)).heap.size=w.heap.size+1:=by simp
 rw [e] at k2;exact ⟨Qac a1 a2,(a2.block _ (by rw [e];omega)).trans (heap_alloc_new w _),k2⟩
theorem Qg2 {w w':World} {r:Nat} {o:Obj} (h:w.heap[r]?=some o) (hb:Below w.heap.size w w'):w'.heap[r]?=some o:=(hb.block r (ZZc.1 h).1).trans h
theorem QmU {w:World} {ao:Option Addr} {N:Nat} {L:List Ce} (h:ShI w ao N L):csR L=true->CnQ L:=fun r=>Qjh h r
end Go.Proofs.YtandnmpllheniaaGreatDoor
namespace Go.Proofs.YtandnmpllheniaaGreatDoor
open Go.RowKit
open Go.ChangeMaps (open_string shut_string)
open Go.ChangeAt Go.ChangeShapes Go.PlainAid Go.WideShapes
set_option maxRecDepth 100000 in
theorem Qjd {H:Type} {enc:TypeId×Value->H} {W:World} {r:Reach} {b0 base:Nat} {sp:Nat->Bool} {held:Bool} {v:Value} {d:DataW H} {ps:List MemPlace}
  (hval:Value.okWide Tryz.prog W r b0 22 v) (hd:DataW.Trod enc Tryz.prog W base sp held 22 v d ps):∃ ao ln cap,v=.slice ao ln cap/\ln<=maxLen/\(ln<=1048576->QbD W W.heap.size ao ln):=by
 obtain ⟨ao,ln,cap,rfl⟩:=okWide_slice Tryz.underlying22 hval;obtain ⟨aj,hf⟩:=hd;rcases open_ints Tryz.underlying22 Tryz.underlying5 (show Tryz.prog.cellsOf 5=1 by kernel_rfl) hf with ⟨ab,hx⟩ | ⟨a,ah,af,zs,ab,_,hl,hm,hz,hx,aa,ag⟩
 ·simp [Value.cells] at ab
  obtain ⟨rfl,rfl,rfl⟩:=ab;exact ⟨none,0,0,rfl,ZZj _,fun _=>⟨by omega,fun h=>absurd h (by omega)⟩⟩
 ·simp [Value.cells] at ab
  obtain ⟨rfl,rfl,rfl⟩:=ab;refine ⟨some a,ln,cap,rfl,Nat.le_trans hl hm,fun h=>⟨h,fun h0=>?_⟩⟩;have ak:ln<=zs.length:=by rw [hz];split <;> omega
  have g0:=aa 0 (by omega);obtain ⟨b,ai,ad⟩:=a;have ac:ad=none:=by simpa [Addr.add] using World.cell?_spot g0
  subst ac;refine ⟨b,ai,rfl,by have:=World.block_lt_of_cell? W _ g0;simpa [Addr.add] using this,fun i hi=>⟨zs.getD i 0,?_,by have:=range_u8 ag i;simpa [List.getD] using this⟩⟩;have:=aa i (by omega);by_cases ae:i=0
  ·subst ae;simpa [Addr.add] using this
  ·simpa [Addr.add,ae] using this
end Go.Proofs.YtandnmpllheniaaGreatDoor
