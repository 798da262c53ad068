/-
 Parts.
-/
import Derived.Test.YtdbaabbmcfnjbaaGreatDoorDYH
set_option maxRecDepth 10000
set_option maxHeartbeats 8000000
set_option linter.all false
namespace Go.Proofs.YtdbaabbmcfnjbaaGreatDoor
open Go.ChangeShapes Go.WideShapes Go.ChangeAt Go.RowKit Go.PlainAid Go.Shelf Go.Maps Go.Lib Tryz
open Go.Sort hiding Below
abbrev QmD (p:Pi) (mb:Nat):Array Value:=#[.int .i64 p.a,.int .i64 p.b,.int .i64 p.c,.int .i64 p.d,.map (some mb)]
theorem QsL:∃ i0,prog.info? 60=some i0/\i0.zero=some (.agg #[.string ByteArray.empty,.slice none 0 0])/\i0.size=2/\i0.bytes=40:=by
 obtain ⟨i0,h1,h2,h3,h4⟩:=info_parts infoSd;exact ⟨i0,h1,h2,h3,h4⟩
variable {W w w' wr:World}
variable {s:Sd}
theorem Qmw {t:TypeId} (j:Nat) (u:Value) (hj:(sdL s)[j]?=some u):(W.alloc (.cells (QeJ s) t)).cell? ((⟨W.heap.size,0,none⟩:Addr).add j)=some u:=by
 have hb:(W.alloc (.cells (QeJ s) t)).heap[W.heap.size]?=some (.cells (QeJ s) t (0,0)):=ZZk W _;rw [Addr.add_lit,Nat.zero_add,cell_of_row _ W.heap.size j _ _ (0,0) hb]
 simpa [sdL] using hj
theorem Qul (s:Sd):∀ u∈sdL s,u.oneCell'=true:=fun u hu=>by
 simp only [sdL,QeJ,List.mem_cons,List.not_mem_nil,or_false] at hu;rcases hu with rfl | rfl <;> rfl
variable {u v v0 v1 v2 v3 v4:Value}
variable {M S:List Sd}
theorem OwnD.add {B:Nat} (h:w.ownsRow B 60 2 v (M.length+1) (flS M ++ sdL s)):OwnD w B v (M ++ [s]):=by
 show World.ownsRow _ _ _ _ _ _ _
 rw [List.length_append,Qtg,QuP];exact h
structure PiI (w wr:World) (mb n:Nat) (M T:List Sd) (p:Pi) (k:Nat) (v:Value):Prop where
 x0:wr.heap[w.heap.size]?=some (.cells (QmD p mb) 188 (0,0))
 x1:wr.heap[w.heap.size+1]?=some (.cells QbW 35 (0,0))
 x2:wr.heap[w.heap.size+1+1]?=some (.cells (Qam v p) 35 (0,0))
 mp:MpS wr mb n M
 o:OwnD wr (w.heap.size+1+1+1) v (T.take k)
 b:Below w.heap.size w wr
structure LcI (w wr:World) (ao:Option Addr) (N ca:Nat) (S:List Sd) (p:Pi) (k:Nat) (v:Value) (M:List Sd):Prop where
 x0:wr.heap[w.heap.size]?=some (.cells (Qam (.slice ao N ca) p) 35 (0,0))
 x1:wr.heap[w.heap.size+1]?=some (.cells QbW 35 (0,0))
 x2:wr.heap[w.heap.size+1+1]?=some (.cells (Qam v p) 35 (0,0))
 r:OwnD wr (w.heap.size+1+1+1) v M
 o:LvO wr (w.heap.size+1+1+1) M
 ky:M.map Sd.key=(S.take k).map Sd.key
 b:Below w.heap.size w wr
section
variable {w wr W w1 w3:World} {ao:Option Addr} {N ca k:Nat} {S M:List Sd} {p:Pi} {v v':Value}
theorem LcI.past (h:LcI w wr ao N ca S p k v M) (hb:Below wr.heap.size wr W):LcI w W ao N ca S p k v M:=
 ⟨QaA h.x0 hb,QaA h.x1 hb,QaA h.x2 hb,h.r.past hb,h.o.past hb,h.ky,Qac h.b hb⟩
theorem LcI.len (h:LcI w wr ao N ca S p k v M) (hN:S.length=N) (hk:k<=N):M.length=k:=by
 have:=congrArg List.length h.ky;simp at this;omega
theorem LcI.far (h:LcI w wr ao N ca S p k v M):∀ j,v.ownBlock=some j->w.heap.size+1+1+1<=j:=fun j q=>(World.ownsRow.lt h.r j q).1
theorem LcI.rows (h:LcI w wr ao N ca S p k v M) (hb:Below wr.heap.size wr W) (hg:W.grownBy w3 v.ownBlock):w3.heap[w.heap.size]?=some (.cells (Qam (.slice ao N ca) p) 35 (0,0))/\w3.heap[w.heap.size+1]?=some (.cells QbW 35 (0,0))/\w3.heap[w.heap.size+1+1]?=some (.cells (Qam v p) 35 (0,0)):=by
 have hW:=h.past hb;have aa:∀ {r:Nat} {o:Obj},r<w.heap.size+1+1+1->W.heap[r]?=some o->w3.heap[r]?=some o:=fun {r o} hr q=>(hg.block r (ZZc.1 q).1 (fun e=>by have:=h.far r e.symm;omega)).trans q;exact ⟨aa (by omega) hW.x0,aa (by omega) hW.x1,aa (by omega) hW.x2⟩
theorem LcI.step {t:Sd} (h:LcI w wr ao N ca S p k v M) (hs:S[k]?=some s) (e:t.key=s.key) (hb1:Below wr.heap.size wr w1) (hr:OwnC w1 wr.heap.size (slS t) t.L) (ho:CesO w1 wr.heap.size t.L) (hbW:Below w1.heap.size w1 W)
  (hown:w3.ownsRow (w.heap.size+1+1+1) 60 2 v' (M.length+1) (flS M ++ sdL t)) (hg:W.grownBy w3 v.ownBlock):LcI w (w3.setCell ⟨w.heap.size+1+1,0,none⟩ v') ao N ca S p (k+1) v' (M ++ [t]):=by
 have ab:=Qac hb1 hbW;obtain ⟨z0,z1,z2⟩:=h.rows ab hg;have hW:=h.past ab;have af:w.heap.size+1+1+1<=wr.heap.size:=(ZZc.1 h.x2).1;have ac:∀ {r:Nat},r≠w.heap.size+1+1->(w3.setCell ⟨w.heap.size+1+1,0,none⟩ v').heap[r]?=w3.heap[r]?:=fun {r} hr=>heap_setCell_other _ _ _ _ (by simpa using fun e=>hr e);have aa:=Qal w3 (w.heap.size+1+1) 0 v';have oS:OwnD w3 (w.heap.size+1+1+1) v' (M ++ [t]):=OwnD.add hown;have oL:LvO W (w.heap.size+1+1+1) (M ++ [t]):=(h.o.add hb1 af hr ho).past hbW;have ae:GrownS W w3 (fun k=>v.ownBlock=some k):=⟨hg.os,hg.tape,hg.output,hg.size,fun k hk hn=>hg.block k hk (fun e=>hn e.symm)⟩;have ad:LvO w3 (w.heap.size+1+1+1) (M ++ [t]):=oL.keptS ae (fun s hs k q=>hW.r.neB oL hs k q);refine ⟨(ac (by omega)).trans z0,(ac (by omega)).trans z1,ZZl w3 _ 0 _ _ v' z2,?_,ad.grown aa (by omega),QqL h.ky hs e,?_⟩
 ·refine World.ownsRow.kept oS aa ?_
  cases q:v'.ownBlock with
  | none=>exact .inl rfl
  | some j=>exact .inr (fun e=>by have:=(World.ownsRow.lt oS j q).1;injection e with e;omega)
 ·exact (hW.b.grown hg hW.b.size (fun j hj=>by have:=h.far j hj;omega)).setCell (by show _<=w.heap.size+1+1;omega) _
theorem LcI.start (hA:True):LcI w (((w.alloc (.cells (Qam (.slice ao N ca) p) 35)).alloc (.cells QbW 35)).alloc (.cells (Qam (.slice none 0 0) p) 35)) ao N ca S p 0 (.slice none 0 0) []:=by
 have a1:∀ (X:World) o,Below X.heap.size X (X.alloc o):=fun X o=>(ZZb _ _).alloc (ZZa _) _;have k0:=ZZk w (.cells (Qam (.slice ao N ca) p) 35);have k1:=ZZk (w.alloc (.cells (Qam (.slice ao N ca) p) 35)) (.cells QbW 35);have k2:=ZZk ((w.alloc (.cells (Qam (.slice ao N ca) p) 35)).alloc (.cells QbW 35)) (.cells (Qam (.slice none 0 0) p) 35);simp only [World.size_alloc] at k1 k2;exact ⟨((a1 _ _).block _ (by simp;omega)).trans (((a1 _ _).block _ (by simp)).trans k0),((a1 _ _).block _ (by simp)).trans k1,k2,OwnD.nil _ _,LvO.nil _ _,by simp,Qac (Qac (a1 _ _) (a1 _ _)) (a1 _ _)⟩
end
structure CpP (w w':World) (S:List Sd) (v:Value) (M:List Sd):Prop where
 r:OwnD w' w.heap.size v M
 o:LvO w' w.heap.size M
 ky:M.map Sd.key=S.map Sd.key
 b:Below w.heap.size w w'
def CpA (w:World) (S:List Sd) (p:Pi) (e:Ending) (w':World):Prop:=∃ v M,e=.returned (.agg (Qam v p))/\CpP w w' S v M
variable {N b ca j:Nat}
theorem Qmo (h:w.cell? ⟨b,j,none⟩=some u):b<w.heap.size:=by
 rcases Nat.lt_or_ge b w.heap.size with q | q
 ·exact q
 ·have e:w.heap[b]?=none:=Array.getElem?_eq_none q
  simp [World.cell?,e] at h
theorem QmL {r:Option Nat} (hg:w.grownBy w' r) (hne:some b≠r) (h:w.cell? ⟨b,j,none⟩=some u):w'.cell? ⟨b,j,none⟩=some u:=by
 have hb:b<w.heap.size:=by
  rcases Nat.lt_or_ge b w.heap.size with q | q
  ·exact q
  ·have e:w.heap[b]?=none:=Array.getElem?_eq_none q
   simp [World.cell?,e] at h
 have e:=hg.block b hb hne;simp only [World.cell?] at h ⊢;rw [e];exact h
theorem CpP.sets (far:∀ j,v.ownBlock=some j->w.heap.size+1+1+1<=j) (ho:LvO wr (w.heap.size+1+1+1) M) (h:CpP w wr S v M):CpP w (((((wr.setCell ⟨w.heap.size+1,0,none⟩ v0).setCell ⟨w.heap.size+1,1,none⟩ v1).setCell ⟨w.heap.size+1,2,none⟩ v2).setCell ⟨w.heap.size+1,3,none⟩ v3).setCell ⟨w.heap.size+1,4,none⟩ v4) S v M:=by
 have st:∀ (W:World) (j:Nat) (u:Value),OwnD W w.heap.size v M->OwnD (W.setCell ⟨w.heap.size+1,j,none⟩ u) w.heap.size v M:=fun W j u o=>by
  refine World.ownsRow.kept o (Qal W _ j u) ?_
  cases q:v.ownBlock with
  | none=>exact .inl rfl
  | some i=>exact .inr (fun e=>by have:=far i q;injection e with e;omega)
 have sl:∀ (W:World) (j:Nat) (u:Value),LvO W (w.heap.size+1+1+1) M->LvO (W.setCell ⟨w.heap.size+1,j,none⟩ u) (w.heap.size+1+1+1) M:=fun W j u o=>o.grown (Qal W _ j u) (by omega);refine ⟨?_,LvO.le ?_ (by omega:w.heap.size<=w.heap.size+1+1+1),h.ky,?_⟩
 ·repeat (refine st _ _ _ ?_)
  exact h.r
 ·repeat (refine sl _ _ _ ?_)
  exact ho
 ·repeat (refine Below.setCell ?_ (by show _<=w.heap.size+1;omega) _)
  exact h.b
variable {ao:Option Addr}
theorem Qgp (p:Pi) (hI:PpI w ao N S) :
  Calls prog 56 #[.agg (Qam (.slice ao N ca) p)] w fun e w'=>CpA w S p e w':=by
 obtain ⟨i0,hi,aC,aE,aI⟩:=QsL;have HI:=Qaa hI;have aN:N<=1048576:=by have:=hI.n;have:=hI.sm.n;omega
 have au:=Qaa (LcI.start (w:=w) (ao:=ao) (N:=N) (ca:=ca) (S:=S) (p:=p) trivial);clear hI;go_enter func56,ntmps56;go_upto_region 3 with fail;generalize ((w.alloc (.cells (Qam (.slice ao N ca) p) 35)).alloc (.cells QbW 35)).alloc (.cells (Qam (.slice none 0 0) p) 35)=W0 at au ⊢;go_wp2
 go_loopw [4] (fun i wr=>∃ (k:Nat) (v:Value) (M:List Sd),k<=N/\i=.int .i64 k/\Hid (LcI w wr ao N ca S p k v M)) (fun i wr=>N - (Go.RowKit.intOf i).toNat)
 case atStart=>exact ⟨0,_,[],ZZj _,rfl,au⟩
 case round=>
  clear au;obtain ⟨k,v,M,hk,rfl,HL⟩:=hrel;by_cases aO:k<N
  ·have am:(k:Int)<(N:Int):=by omega
   obtain ⟨s,hs⟩:∃ s,S[k]?=some s:=⟨S[k]'(by have:=HI.out.n;omega),ZZe _⟩;obtain ⟨b,aa,e,ad⟩:=HI.out.at'.1 (by have:=HI.out.n;omega);subst e;have HS:=Qaa hs;have hm:=ZZn hs;have HM:=Qaa hm;have aK:=Qaa (HL.out.len HI.out.n hk);have aJ:Hid (b<w.heap.size):=Qaa (Qmo (ad k s hs).1);have ab:Hid ((fun W1:World=>W1.heap[w.heap.size]?=some (.cells (Qam (.slice (some ⟨b,aa,none⟩) N ca) p) 35 (0,0))/\W1.heap[w.heap.size+1+1]?=some (.cells (Qam v p) 35 (0,0))/\Qex W1 b (aa+k*2) s) wr.drew):=⟨HL.out.x0,HL.out.x2,QcQ (ad k s hs) HL.out.b.drew⟩;have a0:=(QdF HL.out.x0).1;clear hs hm;go_upto_region 6 with fail;clear a0;have ak:Hid (LcI w wr.drew (some ⟨b,aa,none⟩) N ca S p k v M):=Qaa (HL.out.past (ZZb _ _).drew);have aF:Hid (Below wr.heap.size wr wr.drew):=(ZZb _ _).drew;refine Qao (fun W1:World=>W1.heap[w.heap.size]?=some (.cells (Qam (.slice (some ⟨b,aa,none⟩) N ca) p) 35 (0,0))/\W1.heap[w.heap.size+1+1]?=some (.cells (Qam v p) 35 (0,0))/\Qex W1 b (aa+k*2) s) 19 (by kernel_rfl) ?_;generalize wr.drew=X0 at ak ab aF ⊢;refine tkS 0 (.pointer (some ⟨w.heap.size+1+1,0,none⟩)) ab ?_;refine tkL 1 v ab (fun W hW=>?_) ?_
   ·obtain ⟨s0,s1,s2⟩:=hW
    have c2:=(QdF s1).1;go_simp
   refine tkS 2 (.pointer (some ⟨w.heap.size,0,none⟩)) ab ?_;simp only [sX];refine tkL 3 (.slice (some ⟨b,aa,none⟩) N ca) ab (fun W hW=>?_) ?_
   ·obtain ⟨s0,s1,s2⟩:=hW
    have c0:=(QdF s0).1;go_simp
   refine tkS 4 (.int .i64 (k:Int)) ab ?_;refine tkS 5 (.pointer (some ⟨b,aa+k*2,none⟩)) ab ?_;simp only [sX];refine tkS 6 (.pointer (some ⟨b,aa+k*2,none⟩)) ab ?_;refine tkL 7 (.string s.nm) ab (fun W hW=>?_) ?_
   ·obtain ⟨s0,s1,s2⟩:=hW
    obtain ⟨e0,e1⟩:=s2;go_simp
   refine tkS 8 (.pointer (some ⟨w.heap.size,0,none⟩)) ab ?_;simp only [sX];refine tkL 9 (.slice (some ⟨b,aa,none⟩) N ca) ab (fun W hW=>?_) ?_
   ·obtain ⟨s0,s1,s2⟩:=hW
    have c0:=(QdF s0).1;go_simp
   refine tkS 10 (.int .i64 (k:Int)) ab ?_;refine tkS 11 (.pointer (some ⟨b,aa+k*2,none⟩)) ab ?_;simp only [sX];refine tkS 12 (.pointer (some ⟨b,aa+k*2+1,none⟩)) ab ?_;refine tkL 13 (.slice s.ao s.L.length s.cp) ab (fun W hW=>?_) ?_
   ·obtain ⟨s0,s1,s2⟩:=hW
    obtain ⟨e0,e1⟩:=s2;go_simp
   simp only [sX];refine onE 14 fun K hK=>?_;go_simp;refine (Qb9 rfl (HI.out.sm.l s HM) (HI.out.sm.sm s HM) (fun c hc=>(HI.out.ok s HM c hc).2.2) (Qa6 (HI.out.at'.2 s HM) ak.out.b)).mono ?_;rintro e w1 ⟨v1,L1,rfl,ap,ay,aw,aj,_⟩;obtain ⟨a1,c1,rfl,_⟩:=ap.form;have aL:=Qaa ap;have aM:=Qaa ay;have aG:Hid (Sd.key ⟨s.nm,L1,a1,c1⟩=s.key):=by show (s.nm,L1.map Ce.key)=(s.nm,s.L.map Ce.key);rw [aw]
   have aD:=Qaa aj;have ai:=Qaa (ak.out.past aj);have aq:Hid ((fun W1:World=>W1.heap[w.heap.size]?=some (.cells (Qam (.slice (some ⟨b,aa,none⟩) N ca) p) 35 (0,0))/\W1.heap[w.heap.size+1+1]?=some (.cells (Qam v p) 35 (0,0))/\Qex W1 b (aa+k*2) s) w1):=⟨ai.out.x0,ai.out.x2,QcQ ab.out.2.2 aj⟩;clear ap ay aw aj;dsimp only;refine gK hK aq.out ?_
   try simp only [sX]
   refine tkS 15 (.agg (QeJ ⟨s.nm,L1,a1,c1⟩)) aq ?_;simp only [sX];refine onE 16 fun K hK=>?_;go_simp;have ah:Below w1.heap.size w1 (w1.alloc (.cells (QeJ ⟨s.nm,L1,a1,c1⟩) 60)):=(ZZb _ _).alloc (ZZa _) _;have aA:=Qaa ah;have ag:=Qaa (ai.out.past ah);have az:Hid ((fun W1:World=>W1.heap[w.heap.size]?=some (.cells (Qam (.slice (some ⟨b,aa,none⟩) N ca) p) 35 (0,0))/\W1.heap[w.heap.size+1+1]?=some (.cells (Qam v p) 35 (0,0))/\Qex W1 b (aa+k*2) s) (w1.alloc (.cells (QeJ ⟨s.nm,L1,a1,c1⟩) 60))):=⟨ag.out.x0,ag.out.x2,QcQ aq.out.2.2 ah⟩;refine gK hK az.out ?_;clear ah
   try simp only [sX]
   refine onE 17 fun K hK=>?_;rw [if_pos (by rfl)];have ml:=aK.out;have ow:=ag.out.r;unfold OwnD at ow;have aB:w.heap.size+1+1+1<=(w1.alloc (.cells (QeJ ⟨s.nm,L1,a1,c1⟩) 60)).heap.size:=(ZZc.1 ag.out.x2).1;refine wp_append_own _ (.tmp 15) (.tmp 30) 33 rfl (w.heap.size+1+1+1) 60 i0 (.agg #[.string ByteArray.empty,.slice none 0 0]) 2 40 underlying33 hi aC aE aI rfl (by decide) _ _ _ rfl ow ⟨w1.heap.size,0,none⟩ 1 1 (sdL ⟨s.nm,L1,a1,c1⟩) rfl rfl Qmw (Qul _) (by unfold maxLen;omega) (by omega) aB ?_;intro v8 w8 ae ac _;obtain ⟨a8,c8,rfl⟩:∃ ar cr,v8=.slice ar (M.length+1) cr:=Qag ae;obtain ⟨g0,g1,g2⟩:=ai.out.rows aA ac;have HF:=Qaa (ak.out.step (t:=⟨s.nm,L1,a1,c1⟩) HS aG aD aL aM aA ae ac)
   have ax:Hid ((fun W1:World=>W1.heap[w.heap.size]?=some (.cells (Qam (.slice (some ⟨b,aa,none⟩) N ca) p) 35 (0,0))/\W1.heap[w.heap.size+1+1]?=some (.cells (Qam v p) 35 (0,0))/\Qex W1 b (aa+k*2) s) w8):=⟨g0,g2,by
    have q:=az.out.2.2;have qb:b<w.heap.size:=aJ.out;have far:=ag.out.far;have ne:some b≠v.ownBlock:=fun e=>by have:=far b e.symm;omega
    have kp:∀ j u,(w1.alloc (.cells (QeJ ⟨s.nm,L1,a1,c1⟩) 60)).cell? ⟨b,j,none⟩=some u->w8.cell? ⟨b,j,none⟩=some u:=fun j u h=>QmL ac ne h;exact ⟨kp _ _ q.1,kp _ _ q.2⟩⟩
   have af:=Qaa g2;clear ae ac ow ml aB g0 g1 g2;refine gK hK ax.out ?_
   try simp only [sX]
   refine tkS 18 (.pointer (some ⟨w.heap.size+1+1,0,none⟩)) ax ?_;simp only [sX];have q0:=QaO af 0 rfl;have f0:=fzR 0 af;refine onE 19 fun K hK=>?_;go_simp;clear q0 f0;refine hK.out _ _ (fun h=>absurd rfl h) ?_
   try simp only [sX]
   refine dnE ?_ _;go_wp2;go_roundw
   case rel=>exact ⟨k+1,_,_,by omega,by first | rfl | go_num,HF⟩
   case measure=>simp [zI];omega
  ·have am:¬ (k:Int)<(N:Int):=by omega
   obtain ⟨av,cv,rfl,_⟩:=HL.out.r.form;have R1:=HL.out.x1;have R2:=HL.out.x2
   have al:Hid (CpP w wr S (.slice av M.length cv) M):=by
    have ky:=HL.out.ky;rw [List.take_of_length_le (by have:=HI.out.n;omega)] at ky;exact Qaa ⟨HL.out.r.le (by omega),HL.out.o.le (by omega),ky,HL.out.b⟩
   have an:=Qaa HL.out.far;have aH:=Qaa HL.out.o;obtain ⟨z0,z1,z2,z3,z4⟩:=QdF R2;obtain ⟨y0,y1,y2,y3,y4⟩:=QdF R1;have a0:=(QdF HL.out.x0).1;obtain ⟨f0,f1,f2,f3,f4⟩:=fA5 R1;clear R1 R2 HL;go_wp2;refine bodyPost_ret (v:=.agg (Qam (.slice av M.length cv) p)) (by simp [results,results56,go_sem,y0,y1,y2,y3,y4]) rfl ⟨_,M,rfl,?_⟩;exact CpP.sets an aH al
noncomputable def QgD (S:List Sd) (p:Pi) (n:Int):Pi:=if QaZ S p=true/\0<=n/\n<=1000000000 - p.c then { p with c:=p.c+n } else p
structure CqI (w wr:World) (S:List Sd) (p:Pi) (k:Nat) (v:Value) (M:List Sd):Prop where
 x0:wr.heap[w.heap.size]?=some (.cells (Qam v p) 35 (0,0))
 x1:wr.heap[w.heap.size+1]?=some (.cells QbW 35 (0,0))
 r:OwnD wr (w.heap.size+1+1) v M
 o:LvO wr (w.heap.size+1+1) (M.take k)
 dr:M.drop k=S.drop k
 ky:M.map Sd.key=S.map Sd.key
 b:Below w.heap.size w wr
theorem CpP.sets2 (far:∀ j,v.ownBlock=some j->w.heap.size+1+1<=j) (ho:LvO wr (w.heap.size+1+1) M) (h:CpP w wr S v M):CpP w (((((wr.setCell ⟨w.heap.size+1,0,none⟩ v0).setCell ⟨w.heap.size+1,1,none⟩ v1).setCell ⟨w.heap.size+1,2,none⟩ v2).setCell ⟨w.heap.size+1,3,none⟩ v3).setCell ⟨w.heap.size+1,4,none⟩ v4) S v M:=by
 have st:∀ (W:World) (j:Nat) (u:Value),OwnD W w.heap.size v M->OwnD (W.setCell ⟨w.heap.size+1,j,none⟩ u) w.heap.size v M:=fun W j u o=>by
  refine World.ownsRow.kept o (Qal W _ j u) ?_
  cases q:v.ownBlock with
  | none=>exact .inl rfl
  | some i=>exact .inr (fun e=>by have:=far i q;injection e with e;omega)
 have sl:∀ (W:World) (j:Nat) (u:Value),LvO W (w.heap.size+1+1) M->LvO (W.setCell ⟨w.heap.size+1,j,none⟩ u) (w.heap.size+1+1) M:=fun W j u o=>o.grown (Qal W _ j u) (by omega);refine ⟨?_,LvO.le ?_ (by omega:w.heap.size<=w.heap.size+1+1),h.ky,?_⟩
 ·repeat (refine st _ _ _ ?_)
  exact h.r
 ·repeat (refine sl _ _ _ ?_)
  exact ho
 ·repeat (refine Below.setCell ?_ (by show _<=w.heap.size+1;omega) _)
  exact h.b
variable {p:Pi}
theorem QtO (h:QaZ S p=true):(1<=p.a/\p.a<=1000)/\(0<=p.b/\p.b<=1000)/\(0<=p.c/\p.c<=1000000000)/\0<=p.d/\p.d<=1000000000:=by
 unfold QaZ at h;simp only [Bool.and_eq_true] at h;have h1:=h.1;unfold Qlv inB at h1;simp only [Bool.and_eq_true,decide_eq_true_eq] at h1;omega
variable {n:Int}
theorem Qrc (h:QaZ S p=true) (h0:0<=n) (h1:n<=1000000000 - p.c):QgD S p n={ p with c:=p.c+n }:=by unfold QgD;rw [if_pos ⟨h,h0,h1⟩]
theorem QkH (h:QaZ S p=false∨¬ 0<=n∨¬ n<=1000000000 - p.c):QgD S p n=p:=by
 unfold QgD;rw [if_neg];rintro ⟨a,b,c⟩;rcases h with h | h | h
 ·rw [h] at a;cases a
 ·exact h b
 ·exact h c
theorem CpP.from (h:CpP W w' S v M) (hb:Below w.heap.size w W):CpP w w' S v M:=⟨h.r.le hb.size,h.o.le hb.size,h.ky,Qac hb h.b⟩
theorem CpP.past (h:CpP w w' S v M) (hb:Below w'.heap.size w' W):CpP w W S v M:=⟨h.r.past hb,h.o.past hb,h.ky,Qac h.b hb⟩
def TkQ (w:World) (L mb:Nat) (p:Pi) (n:Int) (w':World):Prop:=∃ q:Pi,w'.heap[L]?=some (.cells (QmD q mb) 188 (0,0))/\w.grownBy w' (some L)/\(0<=n->n<=1000000000 - p.c->q={ p with c:=p.c+n })/\(¬ 0<=n∨¬ n<=1000000000 - p.c->q=p)
theorem CpP.fin {W0 w1:World} (h:CpP W0 w1 S v M) (hT:Below w.heap.size w W0) (hlo:w.heap.size+1+1<=W0.heap.size) (hb:Below w1.heap.size w1 W):CpP w W S v M/\LvO W (w.heap.size+1+1) M/\∀ j,v.ownBlock=some j->w.heap.size+1+1<=j:=
 ⟨(h.past hb).from hT,((h.past hb).o.le hlo),fun j q=>Nat.le_trans hlo (World.ownsRow.lt h.r j q).1⟩
theorem Qjx (p:Pi) (n:Int) (hI:PpI w ao N S) :
  Calls prog 27 #[.agg (Qam (.slice ao N ca) p),.int .i64 n] w fun e w'=>CpA w S (QgD S p n) e w':=by
 have HI:=Qaa hI;have a1:∀ (X:World) o,Below X.heap.size X (X.alloc o):=fun X o=>(ZZb _ _).alloc (ZZa _) _;have k0:=ZZk w (.cells (Qam (.slice ao N ca) p) 35);have k1:=ZZk (w.alloc (.cells (Qam (.slice ao N ca) p) 35)) (.cells QbW 35);simp only [World.size_alloc] at k1;have ap:=Qaa (QaA k0 (a1 _ (.cells QbW 35)));have an:=Qaa k1;have aq:=Qaa (Qac (a1 w (.cells (Qam (.slice ao N ca) p) 35)) (a1 _ (.cells QbW 35)));clear hI a1 k0 k1;go_enter func27,ntmps27;go_upto_region 1 with fail;generalize (w.alloc (.cells (Qam (.slice ao N ca) p) 35)).alloc (.cells QbW 35)=W0 at ap an aq ⊢;have ay:w.heap.size+1+1<=W0.heap.size:=(ZZc.1 an).1;have ax:=Qaa ay;clear ay;obtain ⟨x0,x1,x2,x3,x4⟩:=QdF ap;go_wp2_with fail;clear x0 x1 x2 x3 x4;refine (Qgp p (HI.out.past aq)).mono ?_;rintro e w1 ⟨v,M,rfl,hC⟩;obtain ⟨av,cv,rfl,_⟩:=hC.r.form;have am:Below w1.heap.size w1 (w1.alloc (.cells (Qam (.slice av M.length cv) p) 35)):=(ZZb _ _).alloc (ZZa _) _;have HC:=Qaa hC;have aw:=Qaa am;have HY:=Qaa (ZZk w1 (.cells (Qam (.slice av M.length cv) p) 35));have af:=Qaa (QaA (QaA ap hC.b) am);have ak:=Qaa (QaA (QaA an hC.b) am);have ar:=Qaa (Qac (Qac aq hC.b) am);clear hC am ap an;go_upto_region 2 with fail;generalize w1.alloc (.cells (Qam (.slice av M.length cv) p) 35)=W1 at aw HY af ak ar ⊢;obtain ⟨x0,x1,x2,x3,x4⟩:=QdF af;go_wp2_with fail;clear x0 x1 x2 x3 x4;refine (Qbz p HI.out.n HI.out.sm HI.out.ok (Qbd HI.out.at' ar)).mono ?_;rintro e w2 ⟨rfl,al⟩;have aj:=Qaa (QaA HY al);have ad:=Qaa (QaA af al);have aa:=Qaa (QaA ak al);have ab:=Qaa (Qac aw al);clear al HY af ak ar aw;have ag:Hid (∀ (W:World) (q:Pi),Below w1.heap.size w1 W->QgD S p n=q->(CpP w W S (.slice av M.length cv) M/\LvO W (w.heap.size+1+1) M/\∀ j,(Value.slice av M.length cv).ownBlock=some j->w.heap.size+1+1<=j)/\QgD S p n=q):=fun W q hb e=>⟨HC.out.fin aq ax hb,e⟩;obtain ⟨x0,x1,x2,x3,x4⟩:=QdF ad;obtain ⟨y0,y1,y2,y3,y4⟩:=QdF aa;obtain ⟨z0,z1,z2,z3,z4⟩:=QdF aj;obtain ⟨f0,f1,f2,f3,f4⟩:=fA5 aa;have g3:=fzR 3 aj
 cases hp:QaZ S p with
 | false=>
  obtain ⟨E1,E2⟩:=ag.out w2 p ab (QkH (.inl hp));have ac:=Qaa E1;have ai:=Qaa E2;clear E1 E2 ag aj ad aa ab hp;go_wp2;refine bodyPost_ret (v:=.agg (Qam (.slice av M.length cv) p)) (by simp [results,results27,go_sem,y0,y1,y2,y3,y4]) rfl ⟨.slice av M.length cv,M,by rw [ai.out],?_⟩;exact CpP.sets2 ac.out.2.2 ac.out.2.1 ac.out.1
 | true=>
  have ah:=(QtO hp).2.2.1;have aB:IntKind.i64.wrap (1000000000 - p.c)=1000000000 - p.c:=ZZi _ ⟨by omega,by omega⟩;by_cases h0:0<=n
  ·have d0:decide (0<=n)=true:=ZZh h0
   by_cases h1:n<=1000000000 - p.c
   ·have d1:decide (n<=1000000000 - p.c)=true:=ZZh h1
    have aA:IntKind.i64.wrap (p.c+n)=p.c+n:=ZZi _ ⟨by omega,by omega⟩;obtain ⟨E1,E2⟩:=ag.out (w2.setCell ⟨w1.heap.size,3,none⟩ (.int .i64 (p.c+n))) { p with c:=p.c+n } (ab.out.setCell (ZZa _) _) (Qrc hp h0 h1);have ac:=Qaa E1;have au:=ZZl w2 w1.heap.size 3 _ _ (.int .i64 (p.c+n)) aj;have az:w.heap.size+1≠w1.heap.size:=by have:=(ZZc.1 aa).1;have:=ax.out;have:=HC.out.b.size;omega
    have ae:(w2.setCell ⟨w1.heap.size,3,none⟩ (.int .i64 (p.c+n))).heap[w.heap.size+1]?=some (.cells QbW 35 (0,0)):=(heap_setCell_other _ _ _ _ (by simpa using az)).trans aa;have ai:=Qaa E2;go_upto_region 4 with fail;clear x0 x1 x2 x3 x4 y0 y1 y2 y3 y4 z0 z1 z2 z3 z4 f0 f1 f2 f3 f4 g3 E1 E2 ag aB aA d0 d1;generalize w2.setCell ⟨w1.heap.size,3,none⟩ (.int .i64 (p.c+n))=W3 at ac au ae ⊢;obtain ⟨y0,y1,y2,y3,y4⟩:=QdF ae;obtain ⟨z0,z1,z2,z3,z4⟩:=QdF au;obtain ⟨f0,f1,f2,f3,f4⟩:=fA5 ae;clear au ae aj ad aa ab hp ah h0 h1;go_wp2;refine bodyPost_ret (v:=.agg (Qam (.slice av M.length cv) { p with c:=p.c+n })) (by simp [results,results27,go_sem,y0,y1,y2,y3,y4]) rfl ⟨.slice av M.length cv,M,by rw [ai.out],?_⟩;exact CpP.sets2 ac.out.2.2 ac.out.2.1 ac.out.1
   ·have d1:decide (n<=1000000000 - p.c)=false:=ZZg h1
    obtain ⟨E1,E2⟩:=ag.out w2 p ab (QkH (.inr (.inr h1)));have ac:=Qaa E1;have ai:=Qaa E2;clear E1 E2 ag aj ad aa ab hp ah;go_wp2;refine bodyPost_ret (v:=.agg (Qam (.slice av M.length cv) p)) (by simp [results,results27,go_sem,y0,y1,y2,y3,y4]) rfl ⟨.slice av M.length cv,M,by rw [ai.out],?_⟩;exact CpP.sets2 ac.out.2.2 ac.out.2.1 ac.out.1
  ·have d0:decide (0<=n)=false:=ZZg h0
   obtain ⟨E1,E2⟩:=ag.out w2 p ab (QkH (.inr (.inl h0)));have ac:=Qaa E1;have ai:=Qaa E2;clear E1 E2 ag aj ad aa ab hp ah;go_wp2;refine bodyPost_ret (v:=.agg (Qam (.slice av M.length cv) p)) (by simp [results,results27,go_sem,y0,y1,y2,y3,y4]) rfl ⟨.slice av M.length cv,M,by rw [ai.out],?_⟩;exact CpP.sets2 ac.out.2.2 ac.out.2.1 ac.out.1
end Go.Proofs.YtdbaabbmcfnjbaaGreatDoor
