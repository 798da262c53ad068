/-
 What the exact laws over shards want: copies of cells, answers in the world.
-/
import Derived.Test.YtiiclgcpagdekaaGreatDoorSCR
import Derived.Test.YtiiclgcpagdekaaGreatDoorSPH
import Derived.Test.YtiiclgcpagdekaaGreatDoorSPI
namespace Go.Proofs.YtiiclgcpagdekaaGreatDoor
set_option linter.unusedVariables false
set_option linter.unusedSimpArgs false
open Go.ChangeShapes Go.WideShapes Go.ChangeAt Go.RowKit Go.PlainAid Go.Lib
set_option maxRecDepth 10000
theorem AgO.plgX {w:World} {B:Nat} {g:Ag} {p:Pl} (h:AgO w B g p):PlG g p:=by
 have fb:∀ {ao:Option Addr} {n c:Nat} {L:List Bn},OwnB w B (.slice ao n c) n L→ao=none→c=0:=fun {ao n c L} o e=>by
  rcases o.2 with ⟨q,_⟩ | ⟨b,off,c',cur,q,_⟩
  ·cases q;rfl
  ·cases q;cases e
 have fn:∀ {kd:IntKind} {T:TypeId} {ao:Option Addr} {n c:Nat} {L:List Int},OwnN kd T w B (.slice ao n c) n L→(ao=none→c=0)∧Flat ao∧n≤c∧c≤maxLen:=fun {kd T ao n c L} o=>by
  rcases o.2.2 with ⟨q,q0⟩ | ⟨b,c',cur,q,_,_,q1,q2,_⟩
  ·cases q;exact ⟨fun _=>rfl,.inl rfl,Nat.le_refl _,Nat.zero_le _⟩
  ·cases q;exact ⟨(fun e=>by cases e),.inr ⟨_,_,rfl⟩,q1,q2⟩
 exact ⟨fb h.P,fb h.N,(fn h.E).1,(fn h.R).1,(fn h.E).2.1,(fn h.R).2.1,(fn h.E).2.2.1,(fn h.E).2.2.2⟩
structure CeQ (L:List Ce):Prop where
 ok:∀ c∈L,AgOk c.g
 sm:∀ c∈L,AgSm c.g
 ss:∀ c∈L,c.s.size≤maxLen
theorem CeQ.key {L M:List Ce} (h:CeQ L) (k:M.map Ce.key=L.map Ce.key):CeQ M:=by
 refine ⟨fun c hc=>?_,fun c hc=>?_,fun c hc=>?_⟩
 ·obtain ⟨d,hd,e1,e2,e3⟩:=key_mem k hc
  rw [← e3];exact h.ok d hd
 ·obtain ⟨d,hd,e1,e2,e3⟩:=key_mem k hc
  rw [← e3];exact h.sm d hd
 ·obtain ⟨d,hd,e1,e2,e3⟩:=key_mem k hc
  rw [← e2];exact h.ss d hd
theorem ShI.of {w:World} {g N:Nat} {L M:List Ce} (q:CeQ L) (k:M.map Ce.key=L.map Ce.key) (hN:M.length=N) (lN:N≤1048576) (r:OwnC w g (.slice (some ⟨g,0,none⟩) N N) M) (o:CesO w g M):ShI w (some ⟨g,0,none⟩) N M:=by
 have q2:=q.key k
 exact ⟨hN,lN,q2.ok,q2.sm,q2.ss,fun c hc=>(o.o c hc).plgX,OwnC.at r o.at⟩
theorem totC_key:∀ {L M:List Ce},M.map Ce.key=L.map Ce.key→totC M=totC L
 | [],[],_=>rfl
 | c :: L,d :: M,h=>by
  simp only [List.map_cons,List.cons.injEq] at h
  obtain ⟨q,rfl⟩:=key_eq h.1
  unfold totC
  rw [totC_key h.2]
  rfl
 | [],_ :: _,h=>by simp at h
 | _ :: _,[],h=>by simp at h
theorem totC_parts (L:List Ce) (f:Ce→Bool):totC (L.filter (fun c=>!f c))+totC (L.filter f)=totC L:=by
 induction L with
 | nil=>rfl
 | cons c L ih=>
  cases q:f c <;> simp [List.filter_cons,q,totC] <;> omega
theorem shB_key {nm:ByteArray} {L M:List Ce} (k:M.map Ce.key=L.map Ce.key):shB nm M=shB nm L:=by
 unfold shB;rw [csR_key k]
structure AnB (R O:List Ce):Prop where
 l1:R.length≤1048576
 l2:O.length≤1048576
 s1:∀ c∈R,AgSm c.g
 s2:∀ c∈O,AgSm c.g
 t:1+totC R+totC O≤50000000
structure ShR (w:World) (lo hi:Nat) (ar ap:Option Addr) (n1 n2 c1 c2:Nat) (R O:List Ce):Prop where
 l1:R.length=n1
 l2:O.length=n2
 r:OwnC w lo (.slice ar n1 c1) R
 o:OwnC w lo (.slice ap n2 c2) O
 av:ApV (.slice ar n1 c1) (.slice ap n2 c2)
 c:CesO w lo (R ++ O)
 hi:∀ k,ShBlk (.slice ar n1 c1) (.slice ap n2 c2) R O k→lo≤k∧k<hi
section
variable {w w':World} {lo hi:Nat} {ar ap:Option Addr} {n1 n2 c1 c2:Nat} {R O:List Ce}
theorem ShR.past (h:ShR w lo hi ar ap n1 n2 c1 c2 R O) (hb:Below w.heap.size w w'):ShR w' lo hi ar ap n1 n2 c1 c2 R O:=⟨h.l1,h.l2,h.r.past hb,h.o.past hb,h.av,h.c.past hb,h.hi⟩
theorem ShR.keptS {S:Nat→Prop} (h:ShR w lo hi ar ap n1 n2 c1 c2 R O) (hg:GrownS w w' S) (hS:∀ k,lo≤k→k<hi→¬ S k):ShR w' lo hi ar ap n1 n2 c1 c2 R O:=by
 refine ⟨h.l1,h.l2,h.r.keptS hg (fun k q=>?_),h.o.keptS hg (fun k q=>?_),h.av,h.c.keptS hg (fun c m k q=>?_),h.hi⟩
 ·obtain ⟨a,b⟩:=h.hi k (.inl (.inl q));exact hS k a b
 ·obtain ⟨a,b⟩:=h.hi k (.inr (.inl q));exact hS k a b
 ·rcases List.mem_append.1 m with m | m
  ·obtain ⟨a,b⟩:=h.hi k (.inl (.inr ⟨c,m,q⟩));exact hS k a b
  ·obtain ⟨a,b⟩:=h.hi k (.inr (.inr ⟨c,m,q⟩));exact hS k a b
theorem ShR.at1 (h:ShR w lo hi ar ap n1 n2 c1 c2 R O):CesAt w ar R:=OwnC.at h.r (fun c m=>(h.c.o c (List.mem_append_left _ m)).at)
theorem ShR.at2 (h:ShR w lo hi ar ap n1 n2 c1 c2 R O):CesAt w ap O:=OwnC.at h.o (fun c m=>(h.c.o c (List.mem_append_right _ m)).at)
end
theorem ShO.open {w:World} {B:Nat} {v:Value} {nm:ByteArray} {R O:List Ce} {code:Int} (h:ShO w B v nm R O code):∃ ar ap n1 n2 c1 c2,v=.agg #[.string nm,.slice ar n1 c1,.slice ap n2 c2,.int .i64 code]∧ShR w B w.heap.size ar ap n1 n2 c1 c2 R O:=by
 obtain ⟨⟨vr,vo,e,h1,h2,h3⟩,h4⟩:=h
 obtain ⟨ar,c1,rfl,_⟩:=h1.form
 obtain ⟨ap,c2,rfl,_⟩:=h2.form
 refine ⟨ar,ap,_,_,c1,c2,e,rfl,rfl,h1,h2,h3,h4,fun k q=>?_⟩
 rcases q with (q | ⟨c,m,q⟩) | (q | ⟨c,m,q⟩)
 ·exact World.ownsRow.lt h1 k q
 ·exact (h4.o c (List.mem_append_left _ m)).lt q
 ·exact World.ownsRow.lt h2 k q
 ·exact (h4.o c (List.mem_append_right _ m)).lt q
theorem c_eqSO {w:World} {lo hi lo' hi':Nat} {ar ap br bp:Option Addr} {n1 n2 c1 c2 m1 m2 d1 d2:Nat} {R O R' O':List Ce} {nm nm':ByteArray} {code code':Int} (h:ShR w lo hi ar ap n1 n2 c1 c2 R O) (k:ShR w lo' hi' br bp m1 m2 d1 d2 R' O') (b:AnB R O) (e:nm=nm'∧R.map Ce.key=R'.map Ce.key∧O.map Ce.key=O'.map Ce.key∧code=code') :
  Calls Tryz.prog 15 #[.agg #[.string nm,.slice ar n1 c1,.slice ap n2 c2,.int .i64 code],.agg #[.string nm',.slice br m1 d1,.slice bp m2 d2,.int .i64 code']] w fun e w'=>e=.returned (.bool true)∧Below w.heap.size w w':=by
 obtain ⟨rfl,e1,e2,rfl⟩:=e
 obtain rfl:n1=m1:=by rw [← h.l1,← k.l1];exact map_len e1
 obtain rfl:n2=m2:=by rw [← h.l2,← k.l2];exact map_len e2
 exact c_eqShardOut nm code h.l1 k.l1 h.l2 k.l2 e1 e2 (by rw [← h.l1];exact b.l1) (by rw [← h.l2];exact b.l2) b.s1 b.s2 h.at1 h.at2 k.at1 k.at2
theorem box4 {w:World} {r:Nat} {a b c d:Value} {T:TypeId} (h:w.heap[r]?=some (.cells #[a,b,c,d] T (0,0))):w.cell? ⟨r,0,none⟩=some a∧w.cell? ⟨r,1,none⟩=some b∧w.cell? ⟨r,2,none⟩=some c∧w.cell? ⟨r,3,none⟩=some d:=⟨cellKC h 0 rfl,cellKC h 1 rfl,cellKC h 2 rfl,cellKC h 3 rfl⟩
theorem box2 {w:World} {r:Nat} {a b:Value} {T:TypeId} (h:w.heap[r]?=some (.cells #[a,b] T (0,0))):w.cell? ⟨r,0,none⟩=some a∧w.cell? ⟨r,1,none⟩=some b:=⟨cellKC h 0 rfl,cellKC h 1 rfl⟩
theorem row_pastS {w w':World} {r:Nat} {b:Obj} (h:w.heap[r]?=some b) (hb:Below w.heap.size w w'):w'.heap[r]?=some b:=(hb.block _ (Array.getElem?_eq_some_iff.1 h).1).trans h
theorem PtA.key {nm nm':ByteArray} {L M R:List Ce} {win code:Int} {x:Sx} (h:PtA nm M win x nm' R code) (k:M.map Ce.key=L.map Ce.key):PtA nm L win x nm' R code:=by
 cases h with
 | form h=>exact .form (by rw [← shB_key k];exact h)
 | kind c h hc k1 k2 hk=>
  obtain ⟨d,hd,e1,e2,e3⟩:=key_mem k hc
  exact .kind d (by rw [← shB_key k];exact h) hd (e1.trans k1) (e2.trans k2) (by rw [e3];exact hk)
 | there c o R h hc k1 k2 hk hp hR=>
  obtain ⟨d,hd,e1,e2,e3⟩:=key_mem k hc
  exact .there d o _ (by rw [← shB_key k];exact h) hd (e1.trans k1) (e2.trans k2) (by rw [e3];exact hk) (by rw [e3];exact hp) (hR.key k)
 | full h hn hl=>exact .full (by rw [← shB_key k];exact h) (fun q=>hn ((has_key k).2 q)) (by rw [← map_len k];exact hl)
 | new o R h hn hl hp hR=>exact .new o _ (by rw [← shB_key k];exact h) (fun q=>hn ((has_key k).2 q)) (by rw [← map_len k];exact hl) hp (hR.key k)
theorem asc_one_key {L:List Ce} (hL:AscC L) {c d:Ce} (hc:c∈L) (hd:d∈L) (h1:c.n=d.n) (h2:c.s=d.s):c=d:=by
 obtain ⟨i,hi,rfl⟩:=List.getElem_of_mem hc
 obtain ⟨j,hj,rfl⟩:=List.getElem_of_mem hd
 rcases Nat.lt_trichotomy i j with q | q | q
 ·exact absurd ⟨h1,h2⟩ (cAh_ne ((List.pairwise_iff_getElem.1 hL) i j hi hj q))
 ·subst q;rfl
 ·exact absurd ⟨h1.symm,h2.symm⟩ (cAh_ne ((List.pairwise_iff_getElem.1 hL) j i hj hi q))
theorem PtA.same {nm n1 n2:ByteArray} {L R1 R2:List Ce} {win c1 c2:Int} {x:Sx} (h:PtA nm L win x n1 R1 c1) (k:PtA nm L win x n2 R2 c2):n1=n2∧R1.map Ce.key=R2.map Ce.key∧([]:List Ce).map Ce.key=([]:List Ce).map Ce.key∧c1=c2:=by
 have asc:shB nm L=true∧x.B=true∧winB win=true→AscC L:=fun q=>(csR_iff.1 (shB_csR q.1)).2.2
 cases h with
 | form h=>cases k with
  | form _=>exact ⟨rfl,rfl,rfl,rfl⟩
  | kind _ q=>exact absurd q h
  | there _ _ _ q=>exact absurd q h
  | full q=>exact absurd q h
  | new _ _ q=>exact absurd q h
 | kind c h hc k1 k2 hk=>cases k with
  | form q=>exact absurd h q
  | kind=>exact ⟨rfl,rfl,rfl,rfl⟩
  | there d o R q hd e1 e2 e3=>rw [asc_one_key (asc h) hc hd (k1.trans e1.symm) (k2.trans e2.symm)] at hk;exact absurd e3 hk
  | full q hn=>exact absurd ⟨c,hc,k1,k2⟩ hn
  | new o R q hn=>exact absurd ⟨c,hc,k1,k2⟩ hn
 | there c o R h hc k1 k2 hk hp hR=>cases k with
  | form q=>exact absurd h q
  | kind d q hd e1 e2 e3=>rw [asc_one_key (asc h) hc hd (k1.trans e1.symm) (k2.trans e2.symm)] at hk;exact absurd hk e3
  | there d o' R' q hd e1 e2 e3 hp' hR'=>
   obtain rfl:=asc_one_key (asc h) hc hd (k1.trans e1.symm) (k2.trans e2.symm)
   obtain rfl:=hp.one hp'
   exact ⟨rfl,hR.trans hR'.symm,rfl,rfl⟩
  | full q hn=>exact absurd ⟨c,hc,k1,k2⟩ hn
  | new o R q hn=>exact absurd ⟨c,hc,k1,k2⟩ hn
 | full h hn hl=>cases k with
  | form q=>exact absurd h q
  | kind d q hd e1 e2=>exact absurd ⟨d,hd,e1,e2⟩ hn
  | there d o' R' q hd e1 e2=>exact absurd ⟨d,hd,e1,e2⟩ hn
  | full=>exact ⟨rfl,rfl,rfl,rfl⟩
  | new o R q _ hl'=>exact absurd hl' (by omega)
 | new o R h hn hl hp hR=>cases k with
  | form q=>exact absurd h q
  | kind d q hd e1 e2=>exact absurd ⟨d,hd,e1,e2⟩ hn
  | there d o' R' q hd e1 e2=>exact absurd ⟨d,hd,e1,e2⟩ hn
  | full q _ hl'=>exact absurd hl (by omega)
  | new o' R' q _ _ hp' hR'=>
   obtain rfl:=hp.one hp'
   exact ⟨rfl,hR.trans hR'.symm,rfl,rfl⟩
theorem keepL_lenS (L:List Bn):(keepL L).length≤30:=by
 unfold keepL
 split
 ·assumption
 ·have hd:(L.drop (L.length - 30)).length=30:=by rw [List.length_drop];omega
  split
  ·rename_i h;rw [h] at hd;simp at hd
  ·rename_i h;rw [h] at hd;simp at hd ⊢; omega
def AgFew (o:Ag):Prop:=o.P.length≤30∧o.N.length≤30∧o.E.length≤64∧o.R.length≤64
theorem AgFew.sm {o:Ag} (h:AgFew o):AgSm o:=⟨by have:=h.1;omega,by have:=h.2.1;omega,by have:=h.2.2.1;omega,by have:=h.2.2.2;omega⟩
theorem mrg_few5 {g g' o:Ag} (h:AgMrg g g' o):AgFew o:=by
 unfold AgMrg at h
 split at h
 ·rename_i hg
  obtain ⟨E,R,m,rfl⟩:=h
  have n:=agB_no hg.1
  have n':=agB_no hg.2.1
  have m':MrgH g.E g.R g'.E g'.R E R:=by unfold MrgH;rw [if_pos ⟨n.hl,n'.hl⟩];exact m
  have l:=hlB_len (mrg_right n.hl n'.hl m')
  exact ⟨keepL_lenS _,keepL_lenS _,by show E.length≤_;omega,by show R.length≤_;omega⟩
 ·subst h
  exact ⟨by simp [agZero],by simp [agZero],by simp [agZero],by simp [agZero]⟩
theorem put_few5 {g o:Ag} {x:Sx} (h:AgPut g x o) (hx:x.B=true) (hg:agB g=true) (hk:g.k=x.k):AgFew o:=by
 unfold AgPut at h
 split at h
 ·exact mrg_few5 h
 ·rename_i q;exact absurd (by first | exact ⟨hg,hx,hk⟩ | exact ⟨hg,hk,hx⟩ | exact ⟨⟨hg,hx⟩,hk⟩) q
theorem cst_few {n:Int} {s:ByteArray} {o:Ag} {p:Pl} (h:AgFew o):cst ⟨n,s,o,p⟩≤1000:=by
 obtain ⟨h1,h2,h3,h4⟩:=h
 unfold cst
 simp only
 omega
theorem totC_filter (f:Ce→Bool) (L:List Ce):totC (L.filter f)≤totC L:=by
 have:=totC_parts L f
 omega
theorem PtL.bounds {L R:List Ce} {win:Int} {s:ByteArray} {o:Ag} (h:PtL L win s o R) (hl:L.length+ceTot L≤1048576) (h60:L.length≤60) (q:CeQ L) (fo:AgFew o):AnB R []:=by
 have h':R.map Ce.key=(L.filter (loF win s) ++ ⟨win,s,o,⟨none,0,none,0,none,0,none,0⟩⟩ :: L.filter (hiF win s)).map Ce.key:=by rw [List.map_append,List.map_cons];exact h
 have e1:=map_len h'
 have t1:=totC_key h'
 rw [totC_app] at t1
 have t2:totC (⟨win,s,o,⟨none,0,none,0,none,0,none,0⟩⟩ :: L.filter (hiF win s))=cst ⟨win,s,o,⟨none,0,none,0,none,0,none,0⟩⟩+totC (L.filter (hiF win s)):=rfl
 have t3:=totC_filter (loF win s) L
 have t4:=totC_filter (hiF win s) L
 have t5:=totC_le hl
 have t6:=cst_few (n:=win) (s:=s) (p:=⟨none,0,none,0,none,0,none,0⟩) fo
 have f1:=List.length_filter_le (loF win s) L
 have f2:=List.length_filter_le (hiF win s) L
 have sm:∀ c∈R,AgSm c.g:=fun c hc=>by
  obtain ⟨d,hd,_,_,e3⟩:=key_mem h' hc
  rw [← e3]
  rcases List.mem_append.1 hd with hd | hd
  ·exact q.sm d (List.mem_filter.1 hd).1
  ·rcases List.mem_cons.1 hd with rfl | hd
   ·exact fo.sm
   ·exact q.sm d (List.mem_filter.1 hd).1
 refine ⟨?_,by simp,sm,by simp,by simp only [totC];omega⟩
 simp only [List.length_append,List.length_cons] at e1
 omega
theorem PtA.bounds {nm nm':ByteArray} {L R:List Ce} {win code:Int} {x:Sx} (h:PtA nm L win x nm' R code) (hl:L.length+ceTot L≤1048576) (q:CeQ L):AnB R []:=by
 have z:AnB [] []:=⟨by simp,by simp,(by simp),(by simp),by simp [totC]⟩
 have l60:shB nm L=true∧x.B=true∧winB win=true→L.length≤60:=fun q=>(csR_iff.1 (shB_csR q.1)).1
 have ag:shB nm L=true∧x.B=true∧winB win=true→∀ c∈L,agB c.g=true:=fun q c hc=>cRi_ag ((csR_iff.1 (shB_csR q.1)).2.1 c hc)
 cases h with
 | form=>exact z
 | kind=>exact z
 | full=>exact z
 | there c o R h hc k1 k2 hk hp hR=>exact hR.bounds hl (l60 h) q (put_few5 hp h.2.1 (ag h c hc) hk)
 | new o R h hn hl' hp hR=>
  obtain ⟨a1,a2⟩:=(smp_parts h.2.1).1
  obtain ⟨b1,_,_,b2,_⟩:=agNew_all a1 a2
  exact hR.bounds hl (l60 h) q (put_few5 hp h.2.1 b1 b2)
structure SpB (w w':World) (nm:ByteArray) (L:List Ce) (win:Int) (x:Sx) (G lo hi:Nat) (nm':ByteArray) (ar ap:Option Addr) (n1 n2 c1 c2:Nat) (R:List Ce) (code:Int):Prop where
 b:Below w.heap.size w w'
 y:w'.heap[G]?=some (.cells #[.string nm',.slice ar n1 c1,.slice ap n2 c2,.int .i64 code] 34 (0,0))
 r:ShR w' lo hi ar ap n1 n2 c1 c2 R []
 a:PtA nm L win x nm' R code
 z1:w.heap.size≤lo
 z2:hi≤w'.heap.size
 g0:w.heap.size≤G
 g1:G<lo∨hi≤G
theorem SpB.of {w W:World} {nm:ByteArray} {L:List Ce} {win:Int} {x:Sx} {G lo hi:Nat} {nm':ByteArray} {ar ap:Option Addr} {n1 n2 c1 c2:Nat} {R:List Ce} {code:Int} {u0 u1 u2 u3:Value} (b:Below w.heap.size w W) (y:W.heap[G]?=some (.cells #[u0,u1,u2,u3] 34 (0,0))) (r:ShR W lo hi ar ap n1 n2 c1 c2 R []) (a:PtA nm L win x nm' R code) (z1:w.heap.size≤lo) (z2:hi≤W.heap.size) (g0:w.heap.size≤G) (g1:G<lo∨hi≤G) :
  SpB w ((((W.setCell ⟨G,0,none⟩ (.string nm')).setCell ⟨G,1,none⟩ (.slice ar n1 c1)).setCell ⟨G,2,none⟩ (.slice ap n2 c2)).setCell ⟨G,3,none⟩ (.int .i64 code)) nm L win x G lo hi nm' ar ap n1 n2 c1 c2 R code:=by
 have hs:((((W.setCell ⟨G,0,none⟩ (.string nm')).setCell ⟨G,1,none⟩ (.slice ar n1 c1)).setCell ⟨G,2,none⟩ (.slice ap n2 c2)).setCell ⟨G,3,none⟩ (.int .i64 code)).heap.size=W.heap.size:=by simp [World.setCell]
 have gs:GrownS W ((((W.setCell ⟨G,0,none⟩ (.string nm')).setCell ⟨G,1,none⟩ (.slice ar n1 c1)).setCell ⟨G,2,none⟩ (.slice ap n2 c2)).setCell ⟨G,3,none⟩ (.int .i64 code)) (fun k=>k=G):=by
  refine ⟨rfl,rfl,rfl,by rw [hs];exact Nat.le_refl _,fun k hk hn=>?_⟩
  rw [Below.heap_setCell _ _ _ _ hn,Below.heap_setCell _ _ _ _ hn,Below.heap_setCell _ _ _ _ hn,Below.heap_setCell _ _ _ _ hn]
 refine ⟨(((b.setCell g0 _).setCell g0 _).setCell g0 _).setCell g0 _,?_,r.keptS gs (fun k k1 k2 e=>?_),a,z1,by rw [hs];exact z2,g0,g1⟩
 ·exact heap_setCell_same _ G 3 _ _ _ (heap_setCell_same _ G 2 _ _ _ (heap_setCell_same _ G 1 _ _ _ (heap_setCell_same _ G 0 _ _ _ y)))
 ·subst e;omega
theorem cells7L {w:World} {r:Nat} {T:TypeId} {x:Sx} (h:w.heap[r]?=some (.cells (sxArr x) T (0,0))):w.cell? ⟨r,0,none⟩=some (.int .i64 x.k)∧w.cell? ⟨r,1,none⟩=some (.string x.se)∧w.cell? ⟨r,2,none⟩=some (.int .i64 x.v)∧w.cell? ⟨r,3,none⟩=some (.string x.wd)∧w.cell? ⟨r,4,none⟩=some (.int .u64 x.wt)∧w.cell? ⟨r,5,none⟩=some (.bool x.tm)∧w.cell? ⟨r,6,none⟩=some (.int .i64 x.ti):=⟨cellKC h 0 rfl,cellKC h 1 rfl,cellKC h 2 rfl,cellKC h 3 rfl,cellKC h 4 rfl,cellKC h 5 rfl,cellKC h 6 rfl⟩
theorem box_lp (w:World) (a b:Array Value) (T U:TypeId):Hid (Below w.heap.size w ((w.alloc (.cells a T)).alloc (.cells b U)))∧Hid (((w.alloc (.cells a T)).alloc (.cells b U)).heap[w.heap.size]?=some (.cells a T (0,0)))∧Hid (((w.alloc (.cells a T)).alloc (.cells b U)).heap[w.heap.size+1]?=some (.cells b U (0,0))):=by
 have a1:∀ (X:World) o,Below X.heap.size X (X.alloc o):=fun X o=>(Below.refl _ _).alloc (Nat.le_refl _) _
 have k0:=heap_alloc_new w (.cells a T)
 have k1:=heap_alloc_new (w.alloc (.cells a T)) (.cells b U)
 simp only [World.size_alloc] at k1
 exact ⟨hide (chain (a1 _ _) (a1 _ _)),hide (((a1 _ _).block _ (by simp)).trans k0),hide k1⟩
end Go.Proofs.YtiiclgcpagdekaaGreatDoor
