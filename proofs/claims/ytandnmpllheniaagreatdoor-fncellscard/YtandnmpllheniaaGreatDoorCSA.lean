/-
 Parts.
-/
import Derived.Test.YtandnmpllheniaaGreatDoorCDB
import Derived.Test.YtandnmpllheniaaGreatDoorCOA
set_option linter.all false
namespace Go.Proofs.YtandnmpllheniaaGreatDoor
open Go.ChangeShapes Go.WideShapes Go.ChangeAt Go.RowKit Go.PlainAid Go.Lib Go.Maps
set_option maxRecDepth 10000
theorem AgO.grownD {w w':World} {B s:Nat} {o:Ag} {p:Pl} (h:AgO w B o p) (hg:w.grownBy w' (some s)) (hs:s<B):AgO w' B o p:=by
 refine h.keptS (S:=fun k=>k=s) ⟨hg.os,hg.tape,hg.output,hg.size,fun k hk hn=>hg.block k hk (fun e=>hn (by cases e;rfl))⟩ (fun k e q=>?_);have:=(h.lt e).1;omega
theorem OwnC.grownD {w w':World} {B s:Nat} {v:Value} {L:List Ce} (h:OwnC w B v L) (hg:w.grownBy w' (some s)) (hs:s<B):OwnC w' B v L:=
 World.ownsRow.kept h hg (by
  cases q:v.ownBlock with
  | none=>exact .inl rfl
  | some j=>exact .inr (fun e=>by have:=(World.ownsRow.lt h j q).1;cases e;omega))
theorem OwnC.cap {w:World} {B n cp:Nat} {ao:Option Addr} {L:List Ce} (h:OwnC w B (.slice ao n cp) L) (hn:L.length=n):n<=cp:=by
 rcases h.2 with ⟨e,q⟩ | ⟨g,cap,aa,e,_,_,q1,q2,_⟩
 ·injection e with e1 e2 e3;omega
 ·injection e with e1 e2 e3
  subst e3;omega
theorem OwnC.neT {w:World} {B G:Nat} {v:Value} {L:List Ce} {cs:Array Value} {T:TypeId} {fz:Nat×Nat} (h:OwnC w B v L) (y:w.heap[G]?=some (.cells cs T fz)) (hT:T≠51):v.ownBlock≠some G:=fun e=>by
 rcases h.2 with ⟨rfl,_⟩ | ⟨g,cap,cur,rfl,_,q2,_⟩
 ·cases e
 ·obtain rfl:g=G:=Option.some.inj e
  rw [q2] at y;injection y with y;injection y with _ y2 _;exact hT y2.symm
theorem AgO.neT {w:World} {B G:Nat} {g:Ag} {p:Pl} {cs:Array Value} {T:TypeId} {fz:Nat×Nat} (h:AgO w B g p) (y:w.heap[G]?=some (.cells cs T fz)) (h1:T≠199) (h2:T≠26) (h3:T≠2):∀ k,Qdu g p k->k≠G:=fun k hk e=>by
 subst e;rcases hk with (hk | hk) | (hk | hk)
 ·obtain ⟨c,f,q⟩:=h.P.ty k hk;rw [q] at y;injection y with y;injection y with _ y2 _;exact h1 y2.symm
 ·obtain ⟨c,f,q⟩:=h.N.ty k hk;rw [q] at y;injection y with y;injection y with _ y2 _;exact h1 y2.symm
 ·obtain ⟨c,f,q⟩:=Qqf h.E.2 k hk;rw [q] at y;injection y with y;injection y with _ y2 _;exact h2 y2.symm
 ·obtain ⟨c,f,q⟩:=Qqf h.R.2 k hk;rw [q] at y;injection y with y;injection y with _ y2 _;exact h3 y2.symm
structure CeS (L:List Ce):Prop where
 ok:∀ c∈L,AgOk c.g
 sm:∀ c∈L,AgSm c.g
 ss:∀ c∈L,c.s.size<=maxLen
theorem CeS.of {L:List Ce} (q:CnQ L):CeS L:=⟨q.ok,q.sm,fun c hc=>(q.ky c hc).2⟩
theorem CeS.sub {L M:List Ce} (h:CeS L) (s:∀ c∈M,c∈L):CeS M:=⟨fun c hc=>h.ok c (s c hc),fun c hc=>h.sm c (s c hc),fun c hc=>h.ss c (s c hc)⟩
theorem CeS.app {L M:List Ce} (h:CeS L) (k:CeS M):CeS (L ++ M):=⟨fun c hc=>(List.mem_append.1 hc).elim (h.ok c) (k.ok c),fun c hc=>(List.mem_append.1 hc).elim (h.sm c) (k.sm c),fun c hc=>(List.mem_append.1 hc).elim (h.ss c) (k.ss c)⟩
structure DSh (W w:World) (B:Nat) (ao:Option Addr) (ln cap s:Nat) (wr:World) (b:Nat) (nm:ByteArray) (ax:Option Addr) (n cp:Nat) (L:List Ce):Prop where
 src:Src W B ao ln cap s wr
 lt:s<w.heap.size
 gr:w.grownBy wr (some s)
 res:wr.heap[w.heap.size]?=some (.cells #[.string ⟨#[]⟩,.slice none 0 0] 25 (0,0))
 row:wr.heap[b]?=some (.cells #[.string nm,.slice ax n cp] 25 (0,0))
 lb:w.heap.size<b
 own:OwnC wr (w.heap.size+1) (.slice ax n cp) L
 ag:∀ c∈L,AgO wr (w.heap.size+1) c.g c.p
 nb:(Value.slice ax n cp).ownBlock≠some b/\∀ c∈L,∀ k,Qdu c.g c.p k->k≠b
 q:CeS L
 hn:L.length=n
 len:n<=61
 nmz:nm.size<=1
structure DSf (W w:World) (B:Nat) (ao:Option Addr) (ln cap s:Nat) (wr:World) (nm:ByteArray) (ax:Option Addr) (n cp:Nat) (L:List Ce):Prop where
 src:Src W B ao ln cap s wr
 lt:s<w.heap.size
 gr:w.grownBy wr (some s)
 own:OwnC wr (w.heap.size+1) (.slice ax n cp) L
 ag:∀ c∈L,AgO wr (w.heap.size+1) c.g c.p
 q:CeS L
 hn:L.length=n
 len:n<=61
 nmz:nm.size<=1
section
variable {W w:World} {B:Nat} {ao:Option Addr} {ln cap s:Nat} {wr:World} {b:Nat} {nm:ByteArray} {ax:Option Addr} {n cp:Nat} {L:List Ce}
theorem DSf.step (k:DSf W w B ao ln cap s wr nm ax n cp L) {w1:World} (hS:Src W B ao ln cap s w1) (hg:wr.grownBy w1 (some s)):DSf W w B ao ln cap s w1 nm ax n cp L:=by
 have hz:=k.lt;exact ⟨hS,k.lt,k.gr.trans hg,k.own.grownD hg (by omega),fun c hc=>(k.ag c hc).grownD hg (by omega),k.q,k.hn,k.len,k.nmz⟩
theorem DSf.sh (k:DSf W w B ao ln cap s wr nm ax n cp L):ShI wr ax n L:=
 ⟨k.hn,by have:=k.len;omega,k.q.ok,k.q.sm,k.q.ss,fun c hc=>(k.ag c hc).plgX,OwnC.at k.own (fun c hc=>(k.ag c hc).at)⟩
theorem DSh.step (k:DSh W w B ao ln cap s wr b nm ax n cp L) {w1:World} (hS:Src W B ao ln cap s w1) (hg:wr.grownBy w1 (some s)):DSh W w B ao ln cap s w1 b nm ax n cp L:=by
 have hz:=k.lt;have hl:=k.lb;exact ⟨hS,k.lt,k.gr.trans hg,(hg.block _ (ZZc.1 k.res).1 (fun e=>by cases e;omega)).trans k.res,(hg.block _ (ZZc.1 k.row).1 (fun e=>by cases e;omega)).trans k.row,k.lb,k.own.grownD hg (by omega),fun c hc=>(k.ag c hc).grownD hg (by omega),k.nb,k.q,k.hn,k.len,k.nmz⟩
theorem DSh.past (k:DSh W w B ao ln cap s wr b nm ax n cp L) {w1:World} (hb:Below wr.heap.size wr w1):DSh W w B ao ln cap s w1 b nm ax n cp L:=
 k.step (Qbd k.src hb) ⟨hb.os,hb.tape,hb.output,hb.size,fun j hj _=>hb.block j hj⟩
theorem DSh.sh (k:DSh W w B ao ln cap s wr b nm ax n cp L):ShI wr ax n L:=
 ⟨k.hn,by have:=k.len;omega,k.q.ok,k.q.sm,k.q.ss,fun c hc=>(k.ag c hc).plgX,OwnC.at k.own (fun c hc=>(k.ag c hc).at)⟩
theorem DSh.cells (k:DSh W w B ao ln cap s wr b nm ax n cp L):wr.cell? ⟨b,0,none⟩=some (.string nm)/\wr.cell? ⟨b,1,none⟩=some (.slice ax n cp):=⟨Qba k.row 0 rfl,Qba k.row 1 rfl⟩
theorem DSh.put (k:DSh W w B ao ln cap s wr b nm ax n cp L) {B2 m c:Nat} {nm':ByteArray} {ar:Option Addr} {R:List Ce} (hB:b<B2) (hr:OwnC wr B2 (.slice ar m c) R) (ho:CesO wr B2 R) (q:CeS R) (hm:R.length=m) (len:m<=61) (nmz:nm'.size<=1) :
  DSh W w B ao ln cap s ((wr.setCell ⟨b,0,none⟩ (.string nm')).setCell ⟨b,1,none⟩ (.slice ar m c)) b nm' ar m c R:=by
 have hz:=k.lt;have hl:=k.lb;have hb:Below b wr ((wr.setCell ⟨b,0,none⟩ (.string nm')).setCell ⟨b,1,none⟩ (.slice ar m c)):=((Below.refl b wr).setCell (by simp) _).setCell (by simp) _;have r1:(wr.setCell ⟨b,0,none⟩ (.string nm')).heap[b]?=some (.cells #[.string nm',.slice ax n cp] 25 (0,0)):=ZZl wr b 0 _ _ _ k.row;refine ⟨Qbz k.src hb (by omega),k.lt,QaH k.gr (hb.mono (by omega)),(hb.block _ k.lb).trans k.res,ZZl _ b 1 _ _ _ r1,k.lb,((hr.setNe hB _).setNe hB _).le (by omega),fun d hd=>(((ho.o d hd).below hB _).below hB _).le (by omega),⟨fun e=>?_,fun d hd j hj e=>?_⟩,q,hm,len,nmz⟩
 ·have:=(World.ownsRow.lt hr b e).1;omega
 ·have:=((ho.o d hd).lt hj).1;omega
theorem DSh.row1 (k:DSh W w B ao ln cap s wr b nm ax n cp L) {w1:World} {v:Value} {ar:Option Addr} {m c:Nat} {M:List Ce} (hv:v=.slice ar m c) (hO:OwnC w1 (w.heap.size+1) v M) (hg:wr.grownBy w1 (Value.slice ax n cp).ownBlock) (hm:∀ d∈M,∃ e∈L,d.g=e.g/\d.p=e.p) (q:CeS M) (hl:M.length=m) (len:m<=61) :
  w1.heap[b]?=some (.cells #[.string nm,.slice ax n cp] 25 (0,0))/\DSh W w B ao ln cap s (w1.setCell ⟨b,1,none⟩ v) b nm ar m c M:=by
 subst hv;have hz:=k.lt;have ai:=k.lb;have aj:=k.gr.size;have ae:b<wr.heap.size:=(ZZc.1 k.row).1
 have ab:Below (w.heap.size+1) wr w1:=by
  refine ⟨hg.os,hg.tape,hg.output,hg.size,fun j hj=>hg.block j (by omega) (fun e=>?_)⟩;have:=(World.ownsRow.lt k.own j e.symm).1;omega
 have row1:w1.heap[b]?=some (.cells #[.string nm,.slice ax n cp] 25 (0,0)):=(hg.block b ae (fun e=>k.nb.1 e.symm)).trans k.row
 have af:∀ d∈M,AgO w1 (w.heap.size+1) d.g d.p:=fun d hd=>by
  obtain ⟨e,he,e1,e2⟩:=hm d hd;rw [e1,e2];exact (k.ag e he).keptS (S:=fun j=>(Value.slice ax n cp).ownBlock=some j) ⟨hg.os,hg.tape,hg.output,hg.size,fun j hj hn=>hg.block j hj (fun e=>hn e.symm)⟩ (fun j hj=>k.own.ne (k.ag e he) j hj)
 have ac:(Value.slice ar m c).ownBlock≠some b:=hO.neT row1 (by decide)
 have ad:∀ d∈M,∀ j,Qdu d.g d.p j->j≠b:=fun d hd j hj=>by
  obtain ⟨e,he,e1,e2⟩:=hm d hd;rw [e1,e2] at hj;exact k.nb.2 e he j hj
 have hb:Below b w1 (w1.setCell ⟨b,1,none⟩ (.slice ar m c)):=(Below.refl b w1).setCell (by simp) _;have aa:=Qbz k.src ab (by omega);have ah:=QaH k.gr (ab.mono (by omega));refine ⟨row1,Qbz aa hb (by omega),k.lt,QaH ah (hb.mono (by omega)),(hb.block _ k.lb).trans ((ab.block _ (by omega)).trans k.res),ZZl w1 b 1 _ _ _ row1,k.lb,?_,fun d hd=>(af d hd).setNe (ad d hd) _,⟨ac,ad⟩,q,hl,len,k.nmz⟩;exact World.ownsRow.kept hO (QbT w1 ⟨b,1,none⟩ _) (.inr (fun e=>ac e))
theorem DSh.head (k:DSh W w B ao ln cap s wr b nm ax n cp L) {c c':Ce} {L':List Ce} (hL:L=c :: L') {g:Nat} (hax:ax=some ⟨g,0,none⟩) (j:Nat) (u:Value) (hj:j<15) (e:(ceL c).set j u=ceL c') (hp:c'.p=c.p) (h1:c'.g.P=c.g.P) (h2:c'.g.N=c.g.N) (h3:c'.g.E=c.g.E) (h4:c'.g.R=c.g.R) (q:CeS [c']) :
  DSh W w B ao ln cap s (wr.setCell ⟨g,j,none⟩ u) b nm ax n cp (c' :: L'):=by
 subst hL;subst hax;have hz:=k.lt;have af:=k.lb;have hn:=k.hn;have own:=k.own;have gB:=(World.ownsRow.lt own g rfl).1;have ae:g≠b:=fun e=>k.nb.1 (by rw [<- e];rfl)
 have st:(wr.setCell ⟨g,j,none⟩ u).ownsRow (w.heap.size+1) 51 15 (.slice (some ⟨g,0,none⟩) n cp) n ((flC (c :: L')).set j u):=by
  have ab:wr.ownsRow (w.heap.size+1) 51 15 (.slice (some ⟨g,0,none⟩) n cp) n (flC (c :: L')):=by
   have:=own;unfold OwnC at this;rw [hn] at this;exact this
  exact (ab.stored j u).1
 have ef:(flC (c :: L')).set j u=flC (c' :: L'):=by
  rw [Qcn,Qcn,List.set_append_left _ _ (by rw [QcC];exact hj),e]
 rw [ef] at st;have aa:Below (w.heap.size+1) wr (wr.setCell ⟨g,j,none⟩ u):=(ZZb _ _).setCell gB _;have ad:∀ d∈c :: L',∀ i,Qdu d.g d.p i->i≠g:=fun d hd i hi e=>own.ne (k.ag d hd) i hi (by rw [e];rfl);have ac:∀ d∈c :: L',AgO (wr.setCell ⟨g,j,none⟩ u) (w.heap.size+1) d.g d.p:=fun d hd=>(k.ag d hd).setNe (ad d hd) _;refine ⟨Qbz k.src aa (by omega),k.lt,QaH k.gr (aa.mono (by omega)),(aa.block _ (by omega)).trans k.res,?_,k.lb,?_,fun d hd=>?_,⟨k.nb.1,fun d hd i hi=>?_⟩,?_,hn,k.len,k.nmz⟩
 ·rw [Below.heap_setCell _ _ _ _ (by simpa using ae.symm)];exact k.row
 ·show World.ownsRow _ _ _ _ _ _ _
  rw [show (c' :: L').length=n from hn];exact st
 ·rcases List.mem_cons.1 hd with rfl | hd
  ·rw [hp];exact (ac c (by simp)).re h1 h2 h3 h4
  ·exact ac d (by simp [hd])
 ·rcases List.mem_cons.1 hd with rfl | hd
  ·refine k.nb.2 c (by simp) i ?_
   unfold Qdu at hi ⊢;rw [hp,h1,h2,h3,h4] at hi;exact hi
  ·exact k.nb.2 d (by simp [hd]) i hi
 ·exact q.app (k.q.sub (fun d hd=>by simp [hd]))
theorem DSh.fin (k:DSh W w B ao ln cap s wr b nm ax n cp L):DSf W w B ao ln cap s ((wr.setCell ⟨w.heap.size,0,none⟩ (.string nm)).setCell ⟨w.heap.size,1,none⟩ (.slice ax n cp)) nm ax n cp L:=by
 have hz:=k.lt;have hb:Below w.heap.size wr ((wr.setCell ⟨w.heap.size,0,none⟩ (.string nm)).setCell ⟨w.heap.size,1,none⟩ (.slice ax n cp)):=((Below.refl _ wr).setCell (by simp) _).setCell (by simp) _;exact ⟨Qbz k.src hb k.lt,k.lt,QaH k.gr hb,(k.own.setNe (by omega) _).setNe (by omega) _,fun d hd=>((k.ag d hd).below (by omega) _).below (by omega) _,k.q,k.hn,k.len,k.nmz⟩
end
def Qqq (W:World) (B:Nat) (ao:Option Addr) (ln cap s:Nat) (w:World) (e:Ending) (w':World):Prop:=∃ (nm:ByteArray) (ax:Option Addr) (n cp:Nat) (L:List Ce),e=.returned (.agg #[.string nm,.slice ax n cp])/\DSf W w B ao ln cap s w' nm ax n cp L
structure DSy (W w:World) (B:Nat) (ao:Option Addr) (ln cap s:Nat) (wr:World) (b:Nat) (nm:ByteArray) (ax:Option Addr) (n cp:Nat) (L:List Ce) (G:Nat) (nm':ByteArray) (ar:Option Addr) (m c:Nat) (R:List Ce) (code:Int):Prop where
 d:DSh W w B ao ln cap s wr b nm ax n cp L
 y:∃ u2,wr.heap[G]?=some (.cells #[.string nm',.slice ar m c,u2,.int .i64 code] 32 (0,0))
 r:∃ B2,b<B2/\OwnC wr B2 (.slice ar m c) R/\CesO wr B2 R
 l:R.length=m
 a:code=0->csR R=true/\CnQ R/\nm'=nm
theorem Qfh {nm nm':ByteArray} {L R:List Ce} {win code:Int} {x:Sx} (r:csR L=true) (q:CnQ L) (ox:x.Ok) (h:PtA nm L win x nm' R code) (e:code=0):csR R=true/\CnQ R/\nm'=nm:=by
 subst e;obtain ⟨⟨hx,hw⟩,p⟩:=pta_ok h;obtain ⟨a,b⟩:=Qiu r q ox hx hw p;rcases Qlt h with ⟨_,e⟩ | ⟨e,_⟩
 ·exact ⟨a,b,e⟩
 ·exact absurd rfl e
theorem OwnC.setT {w:World} {B G j:Nat} {v:Value} {L:List Ce} {cs:Array Value} {T:TypeId} {fz:Nat×Nat} (h:OwnC w B v L) (y:w.heap[G]?=some (.cells cs T fz)) (hT:T≠51) (u:Value):OwnC (w.setCell ⟨G,j,none⟩ u) B v L:=
 World.ownsRow.kept h (QbT w ⟨G,j,none⟩ u) (.inr (h.neT y hT))
theorem CesO.setT {w:World} {B G j:Nat} {L:List Ce} {cs:Array Value} {T:TypeId} {fz:Nat×Nat} (h:CesO w B L) (y:w.heap[G]?=some (.cells cs T fz)) (h1:T≠199) (h2:T≠26) (h3:T≠2) (u:Value):CesO (w.setCell ⟨G,j,none⟩ u) B L:=
 ⟨fun c hc=>(h.o c hc).setNe ((h.o c hc).neT y h1 h2 h3) u,h.ap⟩
theorem DSh.far {W w:World} {B:Nat} {ao:Option Addr} {ln cap s:Nat} {wr:World} {b:Nat} {nm:ByteArray} {ax:Option Addr} {n cp:Nat} {L:List Ce} (k:DSh W w B ao ln cap s wr b nm ax n cp L) {G:Nat} {cs:Array Value} (hG:b<G) (y:wr.heap[G]?=some (.cells cs 32 (0,0))) (j:Nat) (u:Value):DSh W w B ao ln cap s (wr.setCell ⟨G,j,none⟩ u) b nm ax n cp L:=by
 have hz:=k.lt;have hl:=k.lb;have hb:Below G wr (wr.setCell ⟨G,j,none⟩ u):=(Below.refl G wr).setCell (by simp) _;exact ⟨Qbz k.src hb (by omega),k.lt,QaH k.gr (hb.mono (by omega)),(hb.block _ (by omega)).trans k.res,(hb.block _ hG).trans k.row,k.lb,k.own.setT y (by decide) _,fun c hc=>(k.ag c hc).setNe ((k.ag c hc).neT y (by decide) (by decide) (by decide)) _,k.nb,k.q,k.hn,k.len,k.nmz⟩
theorem QlH {W w:World} {B:Nat} {ao:Option Addr} {ln cap s:Nat} {wr:World} {b:Nat} {nm:ByteArray} {ax:Option Addr} {n cp:Nat} {L:List Ce} {G B2:Nat} {nm':ByteArray} {ar:Option Addr} {c:Nat} {R:List Ce} {code:Int} {vo u0 u1 u2 u3:Value} (d:DSh W w B ao ln cap s wr b nm ax n cp L) (y:wr.heap[G]?=some (.cells #[u0,u1,u2,u3] 32 (0,0))) (hr:OwnC wr B2 (.slice ar R.length c) R) (ho:CesO wr B2 R) (hB:b<B2) (gb:b<G) (a:code=0->csR R=true/\CnQ R/\nm'=nm) :
  DSy W w B ao ln cap s ((((wr.setCell ⟨G,0,none⟩ (.string nm')).setCell ⟨G,1,none⟩ (.slice ar R.length c)).setCell ⟨G,2,none⟩ vo).setCell ⟨G,3,none⟩ (.int .i64 code)) b nm ax n cp L G nm' ar R.length c R code:=by
 have y1:(wr.setCell ⟨G,0,none⟩ (.string nm')).heap[G]?=some (.cells #[.string nm',u1,u2,u3] 32 (0,0)):=ZZl wr G 0 _ _ _ y;have y2:((wr.setCell ⟨G,0,none⟩ (.string nm')).setCell ⟨G,1,none⟩ (.slice ar R.length c)).heap[G]?=some (.cells #[.string nm',.slice ar R.length c,u2,u3] 32 (0,0)):=ZZl _ G 1 _ _ _ y1;have y3:(((wr.setCell ⟨G,0,none⟩ (.string nm')).setCell ⟨G,1,none⟩ (.slice ar R.length c)).setCell ⟨G,2,none⟩ vo).heap[G]?=some (.cells #[.string nm',.slice ar R.length c,vo,u3] 32 (0,0)):=ZZl _ G 2 _ _ _ y2;have y4:((((wr.setCell ⟨G,0,none⟩ (.string nm')).setCell ⟨G,1,none⟩ (.slice ar R.length c)).setCell ⟨G,2,none⟩ vo).setCell ⟨G,3,none⟩ (.int .i64 code)).heap[G]?=some (.cells #[.string nm',.slice ar R.length c,vo,.int .i64 code] 32 (0,0)):=ZZl _ G 3 _ _ _ y3;exact ⟨(((d.far gb y 0 _).far gb y1 1 _).far gb y2 2 _).far gb y3 3 _,⟨vo,y4⟩,⟨B2,hB,(((hr.setT y (by decide) _).setT y1 (by decide) _).setT y2 (by decide) _).setT y3 (by decide) _,(((ho.setT y (by decide) (by decide) (by decide) _).setT y1 (by decide) (by decide) (by decide) _).setT y2 (by decide) (by decide) (by decide) _).setT y3 (by decide) (by decide) (by decide) _⟩,rfl,a⟩
set_option maxHeartbeats 16000000 in
theorem QfL {W w:World} {B ln cap s:Nat} {ao:Option Addr} (hc:QbD W B ao ln) (h:Src W B ao ln cap s w) :
  Calls Tryz.prog 33 #[.pointer (some ⟨s,0,none⟩)] w fun e w'=>Qqq W B ao ln cap s w e w':=by
 obtain ⟨i0,hi,bH,bC,bJ⟩:=QjD;have HC:=Qaa hc;have hs:=QdQ h;have a0:Below w.heap.size w (w.alloc (.cells #[.string ⟨#[]⟩,.slice none 0 0] 25)):=(ZZb _ _).alloc (ZZa _) _;have aN:=Qaa (Qbd h a0);have bj:=Qaa (ZZk w (.cells #[.string ⟨#[]⟩,.slice none 0 0] 25));have bg:Hid (w.grownBy (w.alloc (.cells #[.string ⟨#[]⟩,.slice none 0 0] 25)) (some s)):=(⟨a0.os,a0.tape,a0.output,a0.size,fun j hj _=>a0.block j hj⟩:w.grownBy _ (some s));have aT:(w.alloc (.cells #[.string ⟨#[]⟩,.slice none 0 0] 25)).heap.size=w.heap.size+1:=by simp
 have HZ:=Qaa aT;clear hc h a0 aT;go_enter Tryz.func33,Tryz.ntmps33;go_wp2_with fail;generalize w.alloc (.cells #[.string ⟨#[]⟩,.slice none 0 0] 25)=W0 at aN bj bg HZ ⊢;rw [<- HZ.out];refine (Qc2 HC aN 1 (by rfl) (by omega) (by omega) (by decide)).mono ?_;rintro e w1 ⟨u,rfl,hu,aP,aK⟩;have a1:Below w1.heap.size w1 (w1.alloc (.cells #[.string u,.slice none 0 0] 25)):=(ZZb _ _).alloc (ZZa _) _
 have HD:Hid (DSh W w B ao ln cap s (w1.alloc (.cells #[.string u,.slice none 0 0] 25)) w1.heap.size u none 0 0 []):=by
  have z1:=aK.size;have z2:=HZ.out;refine Qaa ⟨Qbd aP a1,hs,QaH (bg.out.trans aK) (a1.mono (by omega)),?_,heap_alloc_new w1 _,by omega,OwnC.nil _ _,by simp,⟨by simp [Value.ownBlock],by simp⟩,⟨by simp,by simp,by simp⟩,rfl,by omega,hu⟩;exact (a1.block _ (by omega)).trans ((aK.block _ (by omega) (fun e=>by cases e;omega)).trans bj)
 clear aP aK aN bj bg HZ hu;go_upto_region 2 with fail;generalize w1.alloc (.cells #[.string u,.slice none 0 0] 25)=W1 at HD ⊢;generalize w1.heap.size=b at HD ⊢;clear a1;obtain ⟨b5,b6,sz,aU,_,_,z0,z1⟩:=HD.out.src.blk;have bY:W1.cell? ⟨s,3,none⟩=some (.int .i64 sz):=by rw [cell_of_row W1 s 3 _ _ (0,0) aU];rfl
 have hw:IntKind.i64.wrap (6+sz)=6+sz:=ZZi _ ⟨by omega,by omega⟩;clear aU;go_wp2_with fail;clear bY;refine (c_n HC HD.out.src (6+sz) (by omega)).mono ?_;rintro e w2 ⟨k,rfl,k0,k1,_,aW,aQ⟩;have k1:=k1 (by omega);have bl:=Qaa (HD.out.step aW aQ);obtain ⟨k,rfl⟩:=Int.eq_ofNat_of_zero_le k0;have aM:k<=17:=by omega
 clear HD aW aQ k1 k0 hw z0 z1;go_upto_block 0 with fail
 go_cut [3] (fun p w'=>p=.pointer (some ⟨b,0,none⟩)/\∃ (nm:ByteArray) (ax:Option Addr) (n cp:Nat) (L:List Ce),Hid (DSh W w B ao ln cap s w' b nm ax n cp L)/\n<=60)
 case first=>
  go_wp2_with fail
  go_loopw [4] (fun kv wr=>∃ (j:Nat) (nm:ByteArray) (ax:Option Addr) (n cp:Nat) (L:List Ce),kv=.int .i64 j/\j<=17/\Hid (DSh W w B ao ln cap s wr b nm ax n cp L)/\Hid (csR L=true)/\Hid (CnQ L)) (fun kv wr=>(RowKit.intOf kv).toNat)
  case atStart=>exact ⟨k,u,none,0,0,[],rfl,aM,bl,Qaa (by rfl),Qaa ⟨by simp,by simp,by simp,by simp⟩⟩
  case round=>
   clear bl aM;obtain ⟨j,nm,ax,n,cp,L,rfl,hj,HD,CR,CQ⟩:=hrel;rcases Nat.eq_zero_or_pos j with h0 | h0
   ·subst h0
    go_wp2;go_meet;exact ⟨rfl,nm,ax,n,cp,L,HD,by have:=(csR_iff.1 CR).1;have:=HD.out.hn;omega⟩
   ·have b3:(0:Int)<(j:Int):=by omega
    have bV:IntKind.i64.wrap ((j:Int) - 1)=((j - 1:Nat):Int):=by rw [show (j:Int) - 1=((j - 1:Nat):Int) by omega];exact ZZi _ ⟨by omega,by omega⟩
    go_upto_region 5 with fail
    go_cut [5] (fun v w'=>∃ (G:Nat) (nm':ByteArray) (ar:Option Addr) (m c:Nat) (R:List Ce) (aa:Int),v=.pointer (some ⟨G,0,none⟩)/\Hid (DSy W w B ao ln cap s w' b nm ax n cp L G nm' ar m c R aa))
    case first=>
     have aN:Src W B ao ln cap s wr.drew/\wr.drew.heap[b]?=some (.cells #[.string nm,.slice ax n cp] 25 (0,0)):=⟨Qc7 (k:=1) HD.out.src,HD.out.row⟩;have aD:Hid (DSh W w B ao ln cap s wr.drew b nm ax n cp L):=HD.out.step (Qc7 (k:=1) HD.out.src) (Qbu wr 1 _);refine Qaj (fun W1=>W1.heap[b]?=some (.cells #[.string nm,.slice ax n cp] 25 (0,0))) 7 (by kernel_rfl) ?_;clear aN;generalize wr.drew=X0 at aD ⊢;refine tkL 0 (.agg #[.string nm,.slice ax n cp]) aD.out.row (fun W hW=>?_) ?_
     ·have x0:=Qba hW 0 rfl
      have x1:=Qba hW 1 rfl;clear hW;go_simp
     refine tkS 1 (.pointer (some ⟨s,0,none⟩)) aD.out.row ?_;refine tkS 3 (.pointer (some ⟨s,0,none⟩)) aD.out.row ?_;simp only [sX];refine Qpr (i:=2) (j:=6) (by kernel_rfl) rfl rfl (fun K hK=>?_) (fun K hK=>?_)
     ·go_simp
      refine (c_n HC aD.out.src 3 (by omega)).mono ?_;rintro e W1 ⟨nw,rfl,_,_,_,aP,aK⟩;have D1:=Qaa (aD.out.step aP aK);clear aP aK
      try dsimp only
      refine gK hK D1.out.row ?_
      try simp only [sX]
      refine Qpr (i:=4) (j:=6) (by kernel_rfl) rfl rfl (fun K hK=>?_) (fun K hK=>?_)
      ·go_simp
       refine (Qc9 HC D1.out.src).mono ?_;rintro e W2 ⟨x,rfl,ox,aW,aQ⟩;have OX:=Qaa ox;have D2:=Qaa (D1.out.step aW aQ);clear aW aQ ox
       try dsimp only
       refine gK hK D2.out.row ?_
       try simp only [sX]
       refine Qpr (i:=5) (j:=6) (by kernel_rfl) rfl rfl (fun K hK=>?_) (fun K hK=>?_)
       ·go_simp
        refine (QcL nm nw x (by have:=D2.out.nmz;unfold maxLen;omega) OX D2.out.sh (D2.out.own.cap D2.out.hn)).mono ?_;rintro e W3 ⟨vv,am,R1,aa,rfl,ha,⟨⟨vr,vo,rfl,hr,ho,_⟩,ak⟩,bF⟩;obtain ⟨ar,cr,rfl,_⟩:=hr.form;obtain ⟨ap,cq,rfl,_⟩:=ho.form;have R3:=Qaa hr;have C3:=Qaa (CesO.sub ak (List.sublist_append_left R1 []));have BL:Hid (b<W2.heap.size):=(ZZc.1 D2.out.row).1;have D3:=Qaa (D2.out.past bF);have PA:Hid (aa=0->csR R1=true/\CnQ R1/\am=nm):=fun e=>Qfh CR CQ OX ha e;clear hr ak ho ha bF
        try dsimp only
        refine gK hK D3.out.row ?_
        try simp only [sX]
        refine onE 6 fun K hK=>?_;go_simp;have av:Below W3.heap.size W3 (W3.alloc (.cells #[.string ⟨#[]⟩,.slice none 0 0,.slice none 0 0,.int .i64 0] 32)):=(ZZb _ _).alloc (ZZa _) _;have D4:=Qaa (D3.out.past av);have G4:=Qaa (ZZk W3 (.cells #[.string ⟨#[]⟩,.slice none 0 0,.slice none 0 0,.int .i64 0] 32));have L4:Hid (b<W3.heap.size):=(ZZc.1 D3.out.row).1;have R4:=Qaa (R3.out.past av);have C4:=Qaa (C3.out.past av);clear av
        try dsimp only
        refine gK hK D4.out.row ?_
        try simp only [sX]
        generalize W3.alloc (.cells #[.string ⟨#[]⟩,.slice none 0 0,.slice none 0 0,.int .i64 0] 32)=W4 at D4 G4 R4 C4 ⊢;generalize W3.heap.size=gg4 at G4 L4 ⊢;obtain ⟨q0,q1,q2,q3⟩:=cA4 G4;obtain ⟨f0,f1,f2,f3⟩:=fA4 G4;refine onE 7 fun K hK=>?_;go_simp;clear q0 q1 q2 q3 f0 f1 f2 f3;refine hK.out _ _ (fun h=>absurd rfl h) ?_
        try simp only [sX]
        refine dnE ?_ _;go_wp2;go_meet;exact ⟨gg4,am,ar,R1.length,cr,R1,aa,rfl,Qaa (QlH D4 G4 R4 C4 BL L4 PA)⟩
       ·go_simp
        have aV:Below W2.heap.size W2 (W2.alloc (.cells #[.string ⟨#[]⟩,.slice none 0 0,.slice none 0 0,.int .i64 0] 32)):=(ZZb _ _).alloc (ZZa _) _;have D5:=Qaa (D2.out.past aV);have G5:=Qaa (ZZk W2 (.cells #[.string ⟨#[]⟩,.slice none 0 0,.slice none 0 0,.int .i64 0] 32));have L5:Hid (b<W2.heap.size):=(ZZc.1 D2.out.row).1;clear aV
        try dsimp only
        refine gK hK D5.out.row ?_
        try simp only [sX]
        generalize W2.alloc (.cells #[.string ⟨#[]⟩,.slice none 0 0,.slice none 0 0,.int .i64 0] 32)=W5 at D5 G5 ⊢;generalize W2.heap.size=gg5 at G5 L5 ⊢;refine onE 5 fun K hK=>?_;go_simp;refine (QcL nm nw x (by have:=D5.out.nmz;unfold maxLen;omega) OX D5.out.sh (D5.out.own.cap D5.out.hn)).mono ?_;rintro e W6 ⟨vv,am,R1,aa,rfl,ha,⟨⟨vr,vo,rfl,hr,ho,_⟩,ak⟩,bk⟩;obtain ⟨ar,cr,rfl,_⟩:=hr.form;obtain ⟨ap,cq,rfl,_⟩:=ho.form;have R6:=Qaa hr;have C6:=Qaa (CesO.sub ak (List.sublist_append_left R1 []));have BL:Hid (b<W5.heap.size):=(ZZc.1 D5.out.row).1;have D6:=Qaa (D5.out.past bk);have PA:Hid (aa=0->csR R1=true/\CnQ R1/\am=nm):=fun e=>Qfh CR CQ OX ha e;have G6:=Qaa ((bk.block _ (ZZc.1 G5).1).trans G5);clear hr ak ho ha bk
        try dsimp only
        refine gK hK D6.out.row ?_
        try simp only [sX]
        obtain ⟨q0,q1,q2,q3⟩:=cA4 G6;obtain ⟨f0,f1,f2,f3⟩:=fA4 G6;refine onE 7 fun K hK=>?_;go_simp;clear q0 q1 q2 q3 f0 f1 f2 f3;refine hK.out _ _ (fun h=>absurd rfl h) ?_
        try simp only [sX]
        refine dnE ?_ _;go_wp2;go_meet;exact ⟨gg5,am,ar,R1.length,cr,R1,aa,rfl,Qaa (QlH D6 G6 R6 C6 BL L5 PA)⟩
      ·go_simp
       have aY:Below W1.heap.size W1 (W1.alloc (.cells #[.string ⟨#[]⟩,.slice none 0 0,.slice none 0 0,.int .i64 0] 32)):=(ZZb _ _).alloc (ZZa _) _;have D7:=Qaa (D1.out.past aY);have G7:=Qaa (ZZk W1 (.cells #[.string ⟨#[]⟩,.slice none 0 0,.slice none 0 0,.int .i64 0] 32));have L7:Hid (b<W1.heap.size):=(ZZc.1 D1.out.row).1;clear aY
       try dsimp only
       refine gK hK D7.out.row ?_
       try simp only [sX]
       generalize W1.alloc (.cells #[.string ⟨#[]⟩,.slice none 0 0,.slice none 0 0,.int .i64 0] 32)=W7 at D7 G7 ⊢;generalize W1.heap.size=gg7 at G7 L7 ⊢;refine onE 4 fun K hK=>?_;go_simp;refine (Qc9 HC D7.out.src).mono ?_;rintro e W8 ⟨x,rfl,ox,bG,bf⟩;have OX:=Qaa ox;have D8:=Qaa (D7.out.step bG bf);have G8:=Qaa ((bf.block _ (ZZc.1 G7).1 (fun e=>by cases e;have:=D7.out.lt;have:=D7.out.lb;have:=L7.out;omega)).trans G7);clear bG bf ox
       try dsimp only
       refine gK hK D8.out.row ?_
       try simp only [sX]
       refine onE 5 fun K hK=>?_;go_simp;refine (QcL nm nw x (by have:=D8.out.nmz;unfold maxLen;omega) OX D8.out.sh (D8.out.own.cap D8.out.hn)).mono ?_;rintro e W9 ⟨vv,am,R1,aa,rfl,ha,⟨⟨vr,vo,rfl,hr,ho,_⟩,ak⟩,bn⟩;obtain ⟨ar,cr,rfl,_⟩:=hr.form;obtain ⟨ap,cq,rfl,_⟩:=ho.form;have R9:=Qaa hr;have C9:=Qaa (CesO.sub ak (List.sublist_append_left R1 []));have BL:Hid (b<W8.heap.size):=(ZZc.1 D8.out.row).1;have D9:=Qaa (D8.out.past bn);have PA:Hid (aa=0->csR R1=true/\CnQ R1/\am=nm):=fun e=>Qfh CR CQ OX ha e;have G9:=Qaa ((bn.block _ (ZZc.1 G8).1).trans G8);clear hr ak ho ha bn
       try dsimp only
       refine gK hK D9.out.row ?_
       try simp only [sX]
       obtain ⟨q0,q1,q2,q3⟩:=cA4 G9;obtain ⟨f0,f1,f2,f3⟩:=fA4 G9;refine onE 7 fun K hK=>?_;go_simp;clear q0 q1 q2 q3 f0 f1 f2 f3;refine hK.out _ _ (fun h=>absurd rfl h) ?_
       try simp only [sX]
       refine dnE ?_ _;go_wp2;go_meet;exact ⟨gg7,am,ar,R1.length,cr,R1,aa,rfl,Qaa (QlH D9 G9 R9 C9 BL L7 PA)⟩
     ·go_simp
      have aA:Below X0.heap.size X0 (X0.alloc (.cells #[.string ⟨#[]⟩,.slice none 0 0,.slice none 0 0,.int .i64 0] 32)):=(ZZb _ _).alloc (ZZa _) _;have aL:=Qaa (aD.out.past aA);have a7:=Qaa (ZZk X0 (.cells #[.string ⟨#[]⟩,.slice none 0 0,.slice none 0 0,.int .i64 0] 32));have ba:Hid (b<X0.heap.size):=(ZZc.1 aD.out.row).1;clear aA
      try dsimp only
      refine gK hK aL.out.row ?_
      try simp only [sX]
      generalize X0.alloc (.cells #[.string ⟨#[]⟩,.slice none 0 0,.slice none 0 0,.int .i64 0] 32)=W10 at aL a7 ⊢;generalize X0.heap.size=gg10 at a7 ba ⊢;refine onE 2 fun K hK=>?_;go_simp;refine (c_n HC aL.out.src 3 (by omega)).mono ?_;rintro e b9 ⟨nw,rfl,_,_,_,aR,aE⟩;have aO:=Qaa (aL.out.step aR aE);have br:=Qaa ((aE.block _ (ZZc.1 a7).1 (fun e=>by cases e;have:=aL.out.lt;have:=aL.out.lb;have:=ba.out;omega)).trans a7);clear aR aE
      try dsimp only
      refine gK hK aO.out.row ?_
      try simp only [sX]
      refine onE 4 fun K hK=>?_;go_simp;refine (Qc9 HC aO.out.src).mono ?_;rintro e bM ⟨x,rfl,ox,a2,aG⟩;have OX:=Qaa ox;have aH:=Qaa (aO.out.step a2 aG);have bp:=Qaa ((aG.block _ (ZZc.1 br).1 (fun e=>by cases e;have:=aO.out.lt;have:=aO.out.lb;have:=ba.out;omega)).trans br);clear a2 aG ox
      try dsimp only
      refine gK hK aH.out.row ?_
      try simp only [sX]
      refine onE 5 fun K hK=>?_;go_simp;refine (QcL nm nw x (by have:=aH.out.nmz;unfold maxLen;omega) OX aH.out.sh (aH.out.own.cap aH.out.hn)).mono ?_;rintro e b1 ⟨vv,am,R1,aa,rfl,ha,⟨⟨vr,vo,rfl,hr,ho,_⟩,ak⟩,aF⟩;obtain ⟨ar,cr,rfl,_⟩:=hr.form;obtain ⟨ap,cq,rfl,_⟩:=ho.form;have bU:=Qaa hr;have bT:=Qaa (CesO.sub ak (List.sublist_append_left R1 []));have BL:Hid (b<bM.heap.size):=(ZZc.1 aH.out.row).1;have bw:=Qaa (aH.out.past aF);have PA:Hid (aa=0->csR R1=true/\CnQ R1/\am=nm):=fun e=>Qfh CR CQ OX ha e;have bm:=Qaa ((aF.block _ (ZZc.1 bp).1).trans bp);clear hr ak ho ha aF
      try dsimp only
      refine gK hK bw.out.row ?_
      try simp only [sX]
      obtain ⟨q0,q1,q2,q3⟩:=cA4 bm;obtain ⟨f0,f1,f2,f3⟩:=fA4 bm;refine onE 7 fun K hK=>?_;go_simp;clear q0 q1 q2 q3 f0 f1 f2 f3;refine hK.out _ _ (fun h=>absurd rfl h) ?_
      try simp only [sX]
      refine dnE ?_ _;go_wp2;go_meet;exact ⟨gg10,am,ar,R1.length,cr,R1,aa,rfl,Qaa (QlH bw bm bU bT BL ba PA)⟩
    case rest=>
    obtain ⟨G,nm',ar,m,c,R,aa,rfl,HY⟩:=hcut;obtain ⟨w3,bv⟩:∃ X,wc=X:=⟨_,rfl⟩;rw [bv] at HY ⊢;clear bv HD;obtain ⟨u2,hy⟩:=HY.out.y;have y0:=Qad hy 0 rfl;have y1:=Qad hy 1 rfl;have y3:=Qad hy 3 rfl;clear hy;by_cases an:aa=0
    ·obtain ⟨r1,r2,r3⟩:=HY.out.a an
     subst an;subst r3;obtain ⟨B2,bZ,hr,ho⟩:=HY.out.r;have HN:=Qaa (HY.out.d.put (nm':=nm') bZ hr ho (CeS.of r2) HY.out.l (by have:=(csR_iff.1 r1).1;have:=HY.out.l;omega) HY.out.d.nmz);have R1:=Qaa r1;have R2:=Qaa r2;clear r1 r2 hr ho;obtain ⟨x0,x1⟩:=HY.out.d.cells;have f0:=fzR 0 HY.out.d.row;have f1:=fzR 1 HY.out.d.row;go_wp2;go_roundw
     case rel=>exact ⟨j - 1,nm',ar,m,c,R,by first | rfl | go_num,by omega,HN,R1,R2⟩
     case measure=>simp [RowKit.intOf];omega
    ·have b2:(aa == 0)=false:=ZZf.2 an
     go_wp2;go_roundw
     case rel=>exact ⟨j - 1,nm,ax,n,cp,L,by first | rfl | go_num,by omega,Qaa HY.out.d,CR,CQ⟩
     case measure=>simp [RowKit.intOf];omega
 case rest=>
 clear bl;obtain ⟨rfl,nm,ax,n,cp,L,HD,b4⟩:=hcut;obtain ⟨w4,bD⟩:∃ X,wc=X:=⟨_,rfl⟩;rw [bD] at HD ⊢;clear bD;go_wp2_with fail;refine (Qio HC HD.out.src 20 (by omega)).mono ?_;rintro e w5 ⟨bb,rfl,bt,bx⟩;have ae:=Qaa (HD.out.step bt bx);clear bt bx HD
 cases bb with
 | false=>
  obtain ⟨x0,x1⟩:=ae.out.cells;have z0:=Qad ae.out.res 0 rfl;have z1:=Qad ae.out.res 1 rfl;have e0:=fzR 0 ae.out.res;have e1:=fzR 1 ae.out.res;have bI:¬ b=w.heap.size:=by have:=ae.out.lb;omega
  go_wp2;refine bodyPost_ret (v:=.agg #[.string nm,.slice ax n cp]) (by simp [results,Tryz.results33,go_sem,z0,z1]) rfl ⟨nm,ax,n,cp,L,rfl,ae.out.fin⟩
 | true=>
  obtain ⟨x0,x1⟩:=ae.out.cells;by_cases bh:n=0
  ·have aX:¬ ((0:Int)<(n:Int)):=by omega
   clear x0 x1 bh;obtain ⟨x0,x1⟩:=ae.out.cells;have z0:=Qad ae.out.res 0 rfl;have z1:=Qad ae.out.res 1 rfl;have e0:=fzR 0 ae.out.res;have e1:=fzR 1 ae.out.res;have bI:¬ b=w.heap.size:=by have:=ae.out.lb;omega
   go_wp2;refine bodyPost_ret (v:=.agg #[.string nm,.slice ax n cp]) (by simp [results,Tryz.results33,go_sem,z0,z1]) rfl ⟨nm,ax,n,cp,L,rfl,ae.out.fin⟩
  have aX:(0:Int)<(n:Int):=by omega
  have bh:0<n:=by omega
  go_wp2_with fail;clear x0 x1;refine (c_n HC ae.out.src 4 (by omega)).mono ?_;rintro e w6 ⟨v6,rfl,a6,c6,_,bz,bo⟩;have c6:=c6 (by omega);have ad:=Qaa (ae.out.step bz bo);clear bz bo ae
  obtain ⟨c,L',hL⟩:∃ c L',L=c :: L':=by
   cases L with
   | nil=>have:=ad.out.hn;simp at this;omega
   | cons c L'=>exact ⟨c,L',rfl⟩
  obtain ⟨g,a8⟩:∃ g,ax=some ⟨g,0,none⟩:=by
   rcases ad.out.own.2 with ⟨e,q⟩ | ⟨g,cap,bP,e,_⟩
   ·have:=ad.out.hn;omega
   ·injection e with e1 _ _;exact ⟨g,e1⟩
  go_upto_block 2 with fail
  go_cut [3] (fun p w'=>p=.pointer (some ⟨b,0,none⟩)/\∃ (nm:ByteArray) (ax:Option Addr) (n cp:Nat) (L:List Ce),Hid (DSh W w B ao ln cap s w' b nm ax n cp L))
  case first=>
   subst a8;have ac:=ad.out.own;rw [<- ad.out.hn] at ac;have q6:∀ i d,L[i]?=some d->Qcg w6 g (0+i*15) d:=fun i d hd=>QdJ ac hd;have Q6:=Qaa q6;clear ac q6;have aJ:v6=0∨v6=1∨v6=2∨v6=3:=by omega
   rcases aJ with rfl | rfl | rfl | rfl
   ·have C6:=Qaa (Q6.out 0 c (by rw [hL];rfl))
    go_wp2_with fail;have af:Hid (DSh W w B ao ln cap s w6.drew b nm (some ⟨g,0,none⟩) n cp L):=ad.out.step (Qc7 (k:=1) ad.out.src) (Qbu w6 1 _);have bE:Qcg w6.drew g (0+0*15) c:=C6.out;refine Qaj (fun W1=>W1.heap[b]?=some (.cells #[.string nm,.slice (some ⟨g,0,none⟩) n cp] 25 (0,0))) 9 (by kernel_rfl) ?_;generalize w6.drew=X0 at af bE ⊢;refine tkS 0 (.pointer (some ⟨b,1,none⟩)) af.out.row ?_;refine tkL 1 (.slice (some ⟨g,0,none⟩) n cp) af.out.row (fun W hW=>?_) ?_
    ·have x1:=Qba hW 1 rfl
     clear hW;go_simp
    refine tkS 2 (.pointer (some ⟨b,1,none⟩)) af.out.row ?_;simp only [sX];refine tkL 3 (.slice (some ⟨g,0,none⟩) n cp) af.out.row (fun W hW=>?_) ?_
    ·have x1:=Qba hW 1 rfl
     clear hW;go_simp
    refine tkS 4 (.pointer (some ⟨g,0,none⟩)) af.out.row ?_;simp only [sX];refine onE 5 fun K hK=>?_;obtain ⟨y0,y1,y2,y3,y4,y5,y6,y7,y8,y9,a4,bd,bc,a5,be⟩:=bE;go_simp;clear y0 y1 y2 y3 y4 y5 y6 y7 y8 y9 a4 bd bc a5 be;refine gK hK af.out.row ?_
    try simp only [sX]
    refine onE 6 fun K hK=>?_;go_simp;have bA:Below X0.heap.size X0 (X0.alloc (.cells (Qap c) 51)):=(ZZb _ _).alloc (ZZa _) _;have aw:=Qaa (af.out.past bA);refine gK hK aw.out.row ?_;clear bA
    try simp only [sX]
    refine onE 7 fun K hK=>?_;rw [if_pos (by rfl)];have bi:=aw.out.len;have az:=aw.out.hn;have au:=aw.out.own;unfold OwnC at au;rw [az] at au;have bR:w.heap.size+1<=(X0.alloc (.cells (Qap c) 51)).heap.size:=by have:=aw.out.lb;have:=(ZZc.1 aw.out.row).1;omega
    refine wp_append_own _ (.tmp 74) (.tmp 79) 23 rfl (w.heap.size+1) 51 i0 (.agg Qch) 15 192 Tryz.underlying23 hi bH bC bJ rfl (by decide) _ _ _ rfl au ⟨X0.heap.size,0,none⟩ 1 1 (ceL c) rfl rfl Qb2 (Qdi _) (by unfold maxLen;omega) (by omega) bR ?_;intro v8 w8 ah ag _;clear au bi;obtain ⟨ar,cr,rfl⟩:∃ ar cr,v8=.slice ar (n+1) cr:=Qam ah;have hO:OwnC w8 (w.heap.size+1) (.slice ar (n+1) cr) (L ++ [c]):=OwnC.mk (by rw [az];exact ah);obtain ⟨aS,bs⟩:=aw.out.row1 (M:=L ++ [c]) rfl hO ag (fun d hd=>by rcases List.mem_append.1 hd with h | h;exact ⟨d,h,rfl,rfl⟩;obtain rfl:=List.mem_singleton.1 h;exact ⟨d,by rw [hL];simp,rfl,rfl⟩) (aw.out.q.app (aw.out.q.sub (fun d hd=>by obtain rfl:=List.mem_singleton.1 hd;rw [hL];simp))) (by rw [List.length_append,az];rfl) (by omega);have HN:=Qaa bs;have ay:=Qaa aS;clear ah ag hO aS bs az;refine gK hK ay.out ?_
    try simp only [sX]
    refine tkS 8 (.pointer (some ⟨b,1,none⟩)) ay ?_;simp only [sX];have q1:=Qba ay 1 rfl;have f1:=fzR 1 ay;refine onE 9 fun K hK=>?_;go_simp;clear q1 f1;refine hK.out _ _ (fun h=>absurd rfl h) ?_
    try simp only [sX]
    refine dnE ?_ _;go_wp2;go_meet;exact ⟨rfl,nm,_,_,_,_,HN⟩
   ·obtain ⟨y0,y1,y2,y3,_⟩:=Q6.out 0 c (by rw [hL];rfl)
    obtain ⟨x0,x1⟩:=ad.out.cells;have ac:=ad.out.own;rw [<- ad.out.hn] at ac;have f3:=World.ownsRow.frozenAt ac 3;have aj:=ad.out.q.ok c (by rw [hL];simp);have HN:=Qaa (ad.out.head (c':=⟨c.n,c.s,{ c.g with s:=0 },c.p⟩) hL rfl 3 (.int .u64 0) (by omega) rfl rfl rfl rfl rfl rfl ⟨by simp only [List.mem_singleton,forall_eq];exact ⟨aj.k,(show U64 (0:Int) by unfold U64;omega),aj.h,aj.l,aj.a,aj.t,aj.z,aj.x,aj.y,aj.P,aj.N,aj.E,aj.R⟩,by simp only [List.mem_singleton,forall_eq];have:=ad.out.q.sm c (by rw [hL];simp);exact ⟨this.P,this.N,this.E,this.R⟩,by simp only [List.mem_singleton,forall_eq];exact ad.out.q.ss c (by rw [hL];simp)⟩);clear ac aj;go_wp2;go_meet;exact ⟨rfl,nm,_,_,_,_,HN⟩
   ·obtain ⟨y0,y1,y2,y3,_⟩:=Q6.out 0 c (by rw [hL];rfl)
    obtain ⟨x0,x1⟩:=ad.out.cells;have ac:=ad.out.own;rw [<- ad.out.hn] at ac;have f1:=World.ownsRow.frozenAt ac 1;have HN:=Qaa (ad.out.head (c':=⟨c.n,⟨#[97]⟩,c.g,c.p⟩) hL rfl 1 (.string ⟨#[97]⟩) (by omega) rfl rfl rfl rfl rfl rfl ⟨by simp only [List.mem_singleton,forall_eq];exact ad.out.q.ok c (by rw [hL];simp),by simp only [List.mem_singleton,forall_eq];exact ad.out.q.sm c (by rw [hL];simp),by simp only [List.mem_singleton,forall_eq];show (1:Nat)<=_;unfold maxLen;omega⟩);clear ac;go_wp2;go_meet;exact ⟨rfl,nm,_,_,_,_,HN⟩
   ·clear Q6 hL c6 a6
    go_wp2_with fail
    go_loopw [6] (fun i wr=>∃ (j:Nat) (nm:ByteArray) (ax:Option Addr) (n cp:Nat) (L:List Ce),i=.int .i64 j/\Hid (j+1<=n)/\Hid (DSh W w B ao ln cap s wr b nm ax n cp L)) (fun i wr=>62 - (RowKit.intOf i).toNat)
    case atStart=>exact ⟨0,nm,some ⟨g,0,none⟩,n,cp,L,rfl,Qaa (by omega),ad⟩
    case round=>
     clear ad bh aX;obtain ⟨j,nm,ax,n,cp,L,rfl,HJ,HD⟩:=hrel
     obtain ⟨g,a8⟩:∃ g,ax=some ⟨g,0,none⟩:=by
      rcases HD.out.own.2 with ⟨e,q⟩ | ⟨g,cap,bP,e,_⟩
      ·have:=HD.out.hn;have:=HJ.out;omega
      ·injection e with e1 _ _;exact ⟨g,e1⟩
     subst a8;go_wp2_with fail;have af:Hid (DSh W w B ao ln cap s wr.drew b nm (some ⟨g,0,none⟩) n cp L):=HD.out.step (Qc7 (k:=1) HD.out.src) (Qbu wr 1 _);refine Qaj (fun W1=>W1.heap[b]?=some (.cells #[.string nm,.slice (some ⟨g,0,none⟩) n cp] 25 (0,0))) 99 (by kernel_rfl) ?_;clear HD;generalize wr.drew=X0 at af ⊢;refine tkS 0 (.pointer (some ⟨b,1,none⟩)) af.out.row ?_;refine tkL 1 (.slice (some ⟨g,0,none⟩) n cp) af.out.row (fun W hW=>?_) ?_
     ·have x1:=Qba hW 1 rfl
      clear hW;go_simp
     refine tkS 2 (.int .i64 n) af.out.row ?_;simp only [sX];refine tkS 3 (.pointer (some ⟨s,0,none⟩)) af.out.row ?_;simp only [sX];refine onE 4 fun K hK=>?_;go_simp;refine (c_n HC af.out.src 3 (by omega)).mono ?_;rintro e w9 ⟨v9,rfl,a9,c9,_,bB,bu⟩;have c9:=c9 (by omega);have aq:=Qaa (af.out.step bB bu);clear bB bu af
     try dsimp only
     refine gK hK aq.out.row ?_
     try simp only [sX]
     have bW:IntKind.i64.wrap ((59:Int)+v9)=59+v9:=ZZi _ ⟨by omega,by omega⟩;refine tkS 5 (.int .i64 (59+v9)) aq.out.row ?_;refine tkS 6 (.bool (decide ((n:Int)<59+v9))) aq.out.row ?_;simp only [sX];refine dnE ?_ _;clear bW;by_cases b0:(n:Int)<59+v9
     ·have bX:n<=60:=by omega
      obtain ⟨c,hc⟩:∃ c,L[n - 1]?=some c:=⟨L[n - 1]'(by have:=aq.out.hn;have:=HJ.out;omega),ZZe _⟩;have aI:=aq.out.own;rw [<- aq.out.hn] at aI;have C9:Qcg w9 g ((n - 1)*15) c:=by have h:=QdJ aI hc;rw [Nat.zero_add] at h;exact h
      have CM:Hid (c∈L):=ZZn hc;obtain ⟨y0,y1,y2,y3,y4,y5,y6,y7,y8,y9,a4,bd,bc,a5,be⟩:=C9;obtain ⟨x0,x1⟩:=aq.out.cells;have b8:1<=n:=by have:=HJ.out;omega
      have bK:IntKind.i64.wrap ((n:Int) - 1)=((n - 1:Nat):Int):=by rw [show (n:Int) - 1=((n - 1:Nat):Int) by omega];exact ZZi _ ⟨by omega,by omega⟩
      have bQ:((n - 1:Nat):Int)<(n:Int):=by omega
      clear aI hc;go_upto_region 14 with fail;clear x0 x1 y0 y1 y2 y3 y4 y5 y6 y7 y8 y9 a4 bd bc a5 be bK bQ;have al:Below w9.heap.size w9 (w9.alloc (.cells (Qap c) 51)):=(ZZb _ _).alloc (ZZa _) _;have HR:=Qaa (ZZk w9 (.cells (Qap c) 51));obtain ⟨nn,bO⟩:∃ nn,IntKind.i64.wrap (c.n+1)=nn:=⟨_,rfl⟩;have ab:=Qaa (aq.out.past ((ZZb w9.heap.size w9).alloc (ZZa _) (.cells (Qap ⟨nn,c.s,c.g,c.p⟩) 51)));have a3:=Qaa (ZZk w9 (.cells (Qap ⟨nn,c.s,c.g,c.p⟩) 51));have x0:=Qba HR 0 rfl;have f0:=fzR 0 HR;clear al;go_upto_region 15 with fail;clear x0 f0 HR bO;generalize w9.alloc (.cells (Qap ⟨nn,c.s,c.g,c.p⟩) 51)=w10 at ab a3 ⊢;generalize w9.heap.size=h at a3 ⊢;clear aq;obtain ⟨x0,x1⟩:=ab.out.cells;obtain ⟨y0,y1,y2,y3,y4,y5,y6,y7,y8,y9,a4,bd,bc,a5,be⟩:=Qoz a3;have ai:=ab.out.own;unfold OwnC at ai;rw [ab.out.hn] at ai;have OW:=Qaa ai;clear ai;have b7:w.heap.size+1<=w10.heap.size:=by have:=ab.out.lb;have:=(ZZc.1 ab.out.row).1;omega
      go_wp2_with (at_builtin;refine wpList_append_own _ rfl _ _ 23 rfl (w.heap.size+1) 51 i0 (.agg Qch) 15 192 Tryz.underlying23 hi bH bC bJ rfl (by decide) _ _ _ rfl (World.ownsRow.alloc OW _) ⟨w10.heap.size,0,none⟩ 1 1 (ceL ⟨nn,c.s,c.g,c.p⟩) rfl rfl ?c1 ?c2 ?c3 ?c4 ?c5 ?_)
      case c1=>first | exact Qb2 (c:=⟨nn,c.s,c.g,c.p⟩) | exact fun j u hj=>hj
      case c2=>exact Qdi _
      case c3=>unfold maxLen;omega
      case c4=>omega
      case c5=>first | (simp;omega) | omega
      intro bL bN ah ag _;obtain ⟨ar,cr,rfl⟩:∃ ar cr,bL=.slice ar (n+1) cr:=Qam ah;have az:=ab.out.hn;have hO:OwnC bN (w.heap.size+1) (.slice ar (n+1) cr) (L ++ [⟨nn,c.s,c.g,c.p⟩]):=OwnC.mk (by rw [az];exact ah);have al:Below w10.heap.size w10 (w10.alloc (.cells (Qap ⟨nn,c.s,c.g,c.p⟩) 51)):=(ZZb _ _).alloc (ZZa _) _;obtain ⟨aC,aZ⟩:=(ab.out.past al).row1 (M:=L ++ [⟨nn,c.s,c.g,c.p⟩]) rfl hO ag (fun d hd=>by rcases List.mem_append.1 hd with h | h;exact ⟨d,h,rfl,rfl⟩;obtain rfl:=List.mem_singleton.1 h;exact ⟨c,CM,rfl,rfl⟩) (ab.out.q.app ⟨by simp only [List.mem_singleton,forall_eq];exact ab.out.q.ok c CM,by simp only [List.mem_singleton,forall_eq];exact ab.out.q.sm c CM,by simp only [List.mem_singleton,forall_eq];exact ab.out.q.ss c CM⟩) (by rw [List.length_append,az];rfl) (by omega);have HN:=Qaa aZ;have aB:=Qaa aC;clear ah ag hO aC aZ az al x0 x1 OW ab a3;have q1:=Qba aB 1 rfl;have f1:=fzR 1 aB;have bS:j<=60:=by have:=HJ.out;omega
      have bV:IntKind.i64.wrap ((j:Int)+1)=((j+1:Nat):Int):=by rw [show (j:Int)+1=((j+1:Nat):Int) by omega];exact ZZi _ ⟨by omega,by omega⟩
      go_wp2;go_roundw
      case rel=>exact ⟨j+1,nm,ar,n+1,cr,_,by first | rfl | go_num,Qaa (by have:=HJ.out;omega),HN⟩
      case measure=>have:=HJ.out;simp [RowKit.intOf];omega
     ·go_wp2
      go_meet;exact ⟨rfl,nm,_,n,cp,L,aq⟩
  case rest=>
  clear ad hL a8;obtain ⟨rfl,nm,ax,n,cp,L,HD⟩:=hcut;obtain ⟨w7,bq⟩:∃ X,wc=X:=⟨_,rfl⟩;rw [bq] at HD ⊢;clear bq;obtain ⟨x0,x1⟩:=HD.out.cells;have z0:=Qad HD.out.res 0 rfl;have z1:=Qad HD.out.res 1 rfl;have e0:=fzR 0 HD.out.res;have e1:=fzR 1 HD.out.res;have bI:¬ b=w.heap.size:=by have:=HD.out.lb;omega
  go_wp2;refine bodyPost_ret (v:=.agg #[.string nm,.slice ax n cp]) (by simp [results,Tryz.results33,go_sem,z0,z1]) rfl ⟨nm,ax,n,cp,L,rfl,HD.out.fin⟩
end Go.Proofs.YtandnmpllheniaaGreatDoor
