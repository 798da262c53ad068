/-
 PipeClose of the model: what stands between two rounds; the bounds of an answer.
-/
import Derived.Test.YtmjogablacnlgaaGreatDoorOZT
namespace Go.Proofs.YtmjogablacnlgaaGreatDoor
set_option linter.unusedVariables false
set_option linter.unusedSimpArgs false
open Go.ChangeShapes Go.WideShapes Go.ChangeAt Go.RowKit Go.PlainAid Go.Lib Go.Maps
set_option maxRecDepth 10000
theorem ceTot_filt (P:Ce→Bool):∀ L:List Ce,ceTot (L.filter P)≤ceTot L
 | []=>Nat.le_refl _
 | c :: L=>by
  have h:=ceTot_filt P L;have e:∀ X:List Ce,ceTot (c :: X)=agTot c.g+ceTot X:=fun X=>rfl;rw [List.filter_cons]
  split
  ·rw [e,e];omega
  ·rw [e];omega
theorem rest_tot {win:Int}:∀ {S M:List Sd},M.map Sd.key=S.map (restS win)→sdTot M≤sdTot S∧M.length=S.length
 | [],[],_=>⟨Nat.le_refl _,rfl⟩
 | s :: S,t :: M,h=>by
  simp only [List.map_cons,List.cons.injEq] at h;obtain ⟨h1,h2⟩:=rest_tot h.2;have e:t.L.map Ce.key=(s.L.filter (fun c=>!isW win c)).map Ce.key:=congrArg Prod.snd h.1;have e1:=ceTot_key e;have e2:=congrArg List.length e;rw [List.length_map,List.length_map] at e2;have l1:=ceTot_filt (fun c=>!isW win c) s.L;have l2:=List.length_filter_le (fun c=>!isW win c) s.L;unfold sdTot;rw [List.length_cons,List.length_cons];omega
 | [],_ :: _,h=>by simp at h
 | _ :: _,[],h=>by simp at h
theorem ClR.bd {S M:List Sd} {p q:Pi} {C:List Ce} {cd:Int} (h:ClR S p q (M.map Sd.key) (C.map Ce.key) cd) (ht:S.length+sdTot S≤1048576):SBd M∧SdsSm M∧CBd C:=by
 unfold ClR at h
 split at h
 ·exact ⟨(nilBd h.2.2.1).1,(nilBd h.2.2.1).2,nilC h.2.2.2⟩
 ·rename_i c1
  split at h
  ·exact ⟨(nilBd h.2.2.1).1,(nilBd h.2.2.1).2,nilC h.2.2.2⟩
  ·obtain ⟨_,_,hk,D,_,hp,e⟩:=h
   have hpb:pipB S p=true:=by cases q:pipB S p;exact absurd q c1;rfl
   obtain ⟨h1,h2⟩:=rest_tot hk;have sb:=SBd.of (M:=M) (by omega);refine ⟨sb,⟨sb.n,sb.l,sb.s,fun s hs=>?_⟩,CBd.of ?_⟩
   ·have hm:s.key∈S.map (restS p.d):=by rw [← hk];exact List.mem_map_of_mem hs
    obtain ⟨t,htS,et⟩:=List.mem_map.1 hm;have en:t.nm=s.nm:=congrArg Prod.fst et;have:=(name_sizeM (memb_name (sds_memB (pip_parts hpb).1) (List.mem_map_of_mem htS))).2;rw [← en];omega
   ·rw [← e] at hp
    have e1:=ceTot_perm hp;have e2:=hp.length_eq;rw [List.length_map,List.length_map] at e2;have l1:=ceTot_filt (isW p.d) (allC S);have l2:=List.length_filter_le (isW p.d) (allC S);have l3:=allC_tot S;omega
structure SmC (w wr:World) (bx:Nat) (p:Pi) (v:Value) (M S:List Sd) (k:Nat) (X:List Sd) (u:Value) (C:List Ce):Prop where
 xb:wr.heap[bx]?=some (.cells (piArr v p) 29 (0,0))
 nb:∀ j,PBlk v (X ++ M.drop k) j∨CBlk u C j→j≠bx
 r:OwnD wr w.heap.size v (X ++ M.drop k)
 o:LvO wr w.heap.size (X ++ M.drop k)
 c:OwnC wr w.heap.size u C
 d:CesO wr w.heap.size C
 ap:∀ j,PBlk v (X ++ M.drop k) j→¬ CBlk u C j
 kx:X.map Sd.key=(S.take k).map (restS p.d)
 asc:AscC C
 pm:(C.map Ce.key).Perm (((allC (S.take k)).filter (isW p.d)).map Ce.key)
 ne:u≠.slice none 0 0
 b:Below w.heap.size w wr
section
variable {w wr w' w1 w3:World} {bx k gs n cs nr cr:Nat} {p:Pi} {v u vr vo u1:Value} {M S X:List Sd} {C A R:List Ce} {s t:Sd} {ar:Option Addr}
theorem SmC.past (h:SmC w wr bx p v M S k X u C) (hb:Below wr.heap.size wr w'):SmC w w' bx p v M S k X u C:=
 ⟨hpast h.xb hb,h.nb,h.r.past hb,h.o.past hb,h.c.past hb,h.d.past hb,h.ap,h.kx,h.asc,h.pm,h.ne,chain h.b hb⟩
theorem LvO.swap {B:Nat} {Y Z:List Sd} (h:LvO w B (Y ++ t :: Z)) (hr:OwnC w B (slS s) s.L) (ho:CesO w B s.L) (ha:∀ x,x∈Y∨x∈Z→∀ j,CBlk (slS x) x.L j→¬ CBlk (slS s) s.L j):LvO w B (Y ++ s :: Z):=by
 obtain ⟨p1,p2,p3⟩:=List.pairwise_append.1 h.rap;obtain ⟨p4,p5⟩:=List.pairwise_cons.1 p2;have e:∀ x:Sd,allC (Y ++ x :: Z)=allC Y ++ (x.L ++ allC Z):=fun x=>by simp [allC]
 have hd:=h.o;rw [e] at hd;obtain ⟨d1,d2,d3⟩:=List.pairwise_append.1 hd.ap;obtain ⟨d4,d5,d6⟩:=List.pairwise_append.1 d2;refine ⟨fun x hx=>?_,List.pairwise_append.2 ⟨p1,List.pairwise_cons.2 ⟨fun x hx j q1 q2=>ha x (.inr hx) j (.inl q2) (.inl q1),p5⟩,fun a hy b hb j q1 q2=>?_⟩,?_⟩
 ·rcases List.mem_append.1 hx with hx | hx
  ·exact h.r x (List.mem_append_left _ hx)
  ·rcases List.mem_cons.1 hx with hx | hx
   ·rw [hx];exact hr
   ·exact h.r x (List.mem_append_right _ (List.mem_cons_of_mem _ hx))
 ·rcases List.mem_cons.1 hb with hb | hb
  ·rw [hb] at q2;exact ha a (.inl hy) j (.inl q1) (.inl q2)
  ·exact p3 a hy b (List.mem_cons_of_mem _ hb) j q1 q2
 ·rw [e]
  refine ⟨fun c hc=>?_,List.pairwise_append.2 ⟨d1,List.pairwise_append.2 ⟨ho.ap,d5,fun c hc d hd j q1 q2=>?_⟩,fun c hc d hd j q1 q2=>?_⟩⟩
  ·rcases List.mem_append.1 hc with hc | hc
   ·exact hd.o c (List.mem_append_left _ hc)
   ·rcases List.mem_append.1 hc with hc | hc
    ·exact ho.o c hc
    ·exact hd.o c (List.mem_append_right _ (List.mem_append_right _ hc))
  ·obtain ⟨x,hx,hdx⟩:=mem_allC hd
   exact ha x (.inr hx) j (.inr ⟨d,hdx,q2⟩) (.inr ⟨c,hc,q1⟩)
  ·obtain ⟨x,hx,hcx⟩:=mem_allC hc
   rcases List.mem_append.1 hd with hd | hd
   ·exact ha x (.inl hx) j (.inr ⟨c,hcx,q1⟩) (.inr ⟨d,hd,q2⟩)
   ·exact d3 c hc d (List.mem_append_right _ hd) j q1 q2
theorem CesO.filt {B:Nat} {L:List Ce} (h:CesO w B L) (f:Ce→Bool):CesO w B (L.filter f):=⟨fun c hc=>h.o c (List.mem_filter.1 hc).1,h.ap.sublist List.filter_sublist⟩
theorem SmC.step (h:SmC w wr bx p (.slice (some ⟨gs,0,none⟩) n cs) M S k X u C) (hkl:X.length=k) (hM:M[k]?=some t) (hS:S[k]?=some s) (hts:t.key=s.key)
  (hb1:Below wr.heap.size wr w1) (hr:OwnC w1 wr.heap.size (.slice ar nr cr) (A.filter (fun c=>!isW p.d c))) (hA:CesO w1 wr.heap.size A) (hk:A.map Ce.key=t.L.map Ce.key)
  (m:MgD C (A.filter (isW p.d)) R) (r3:OwnC w3 (w1.setCell ⟨gs,k*2+1,none⟩ (.slice ar nr cr)).heap.size u1 R) (o3:CesO w3 (w1.setCell ⟨gs,k*2+1,none⟩ (.slice ar nr cr)).heap.size R) (ne:u1≠.slice none 0 0) (b3:Below (w1.setCell ⟨gs,k*2+1,none⟩ (.slice ar nr cr)).heap.size (w1.setCell ⟨gs,k*2+1,none⟩ (.slice ar nr cr)) w3) :
  SmC w w3 bx p (.slice (some ⟨gs,0,none⟩) n cs) M S (k+1) (X ++ [⟨t.nm,A.filter (fun c=>!isW p.d c),ar,cr⟩]) u1 R:=by
 have hnr:(A.filter (fun c=>!isW p.d c)).length=nr:=ownC_len hr;subst hnr;have hW:=h.past hb1;have gsl:w.heap.size≤gs:=(World.ownsRow.lt h.r gs rfl).1;have z1:=hb1.size;have zb:=h.b.size;generalize ht':(⟨t.nm,A.filter (fun c=>!isW p.d c),ar,cr⟩:Sd)=t';have e1:t'.L=A.filter (fun c=>!isW p.d c):=by rw [← ht']
 have e2:slS t'=.slice ar (A.filter (fun c=>!isW p.d c)).length cr:=by rw [← ht']
 have e3:t'.nm=t.nm:=by rw [← ht']
 have g:=(grS (grown_one w1 gs (k*2+1) (.slice ar (A.filter (fun c=>!isW p.d c)).length cr))).weak (T:=fun k=>k=gs) (fun k e=>by injection e with e;exact e.symm);have zg:=g.size;obtain ⟨hi2,em⟩:=List.getElem?_eq_some_iff.1 hM;have hdr:M.drop k=t :: M.drop (k+1):=by rw [← em];exact List.drop_eq_getElem_cons hi2
 have hr0:=hW.r;have ho0:=hW.o;have ap0:=h.ap;have how:=h.o;rw [hdr] at hr0 ho0 ap0 how;have hat:(X ++ t :: M.drop (k+1))[k]?=some t:=by rw [← hkl,List.getElem?_append_right (Nat.le_refl _)];simp
 have hset:(X ++ t :: M.drop (k+1)).set k t'=X ++ t' :: M.drop (k+1):=by rw [← hkl,List.set_append_right _ _ (Nat.le_refl _)];simp
 have r2:=hr0.put1 (j:=1) (s':=t') (u:=.slice ar (A.filter (fun c=>!isW p.d c)).length cr) (ownD_len hr0) hat (by omega) (by unfold sdL;rw [← ht'];rfl);rw [hset] at r2;have oW:=ho0.keptS g (fun x hx j q e=>hr0.neB ho0 hx j q (by rw [e];rfl))
 have rt:OwnC (w1.setCell ⟨gs,k*2+1,none⟩ (.slice ar (A.filter (fun c=>!isW p.d c)).length cr)) wr.heap.size (slS t') t'.L:=by
  rw [e1,e2];exact hr.keptS g (fun j q e=>by have:=(World.ownsRow.lt h.r gs rfl).2;have:=(World.ownsRow.lt hr j q).1;omega)
 have ot:CesO (w1.setCell ⟨gs,k*2+1,none⟩ (.slice ar (A.filter (fun c=>!isW p.d c)).length cr)) wr.heap.size t'.L:=by
  rw [e1];exact (hA.filt _).keptS g (fun c hc j q e=>by have:=(World.ownsRow.lt h.r gs rfl).2;have:=(((hA.filt _).o c hc).lt q).1;omega)
 have o2:LvO (w1.setCell ⟨gs,k*2+1,none⟩ (.slice ar (A.filter (fun c=>!isW p.d c)).length cr)) w.heap.size (X ++ t' :: M.drop (k+1)):=oW.swap (rt.le zb) (ot.le zb) (fun x hx j q1 q2=>by
  have hxm:x∈X ++ t :: M.drop (k+1):=by rcases hx with hx | hx <;> simp [hx]
  have l1:j<wr.heap.size:=by
   rcases q1 with q1 | ⟨c,hc,q1⟩
   ·exact (World.ownsRow.lt (how.r x hxm) j q1).2
   ·exact ((how.o.o c (mem_all hxm hc)).lt q1).2
  have l2:wr.heap.size≤j:=by
   rcases q2 with q2 | ⟨c,hc,q2⟩
   ·exact (World.ownsRow.lt rt j q2).1
   ·exact ((ot.o c hc).lt q2).1
  omega)
 have eX:(X ++ [t']) ++ M.drop (k+1)=X ++ t' :: M.drop (k+1):=by simp
 have kt:t'.key=restS p.d s:=by
  have q:=key_len hts;unfold Sd.key restS;rw [e1,e3,q.1,(filter_key (hk.trans q.2.1)).2]
 refine ⟨hpast (g.row hW.xb (fun e=>h.nb gs (.inl (.inl rfl)) e.symm)) b3,?_,by rw [eX];exact r2.past b3,by rw [eX];exact o2.past b3,r3.le (by omega),o3.le (by omega),?_,?_,m.asc,?_,ne,?_⟩
 ·intro j q e
  have hbx:bx<wr.heap.size:=(Array.getElem?_eq_some_iff.1 h.xb).1
  have lt':∀ j,CBlk (slS t') t'.L j→wr.heap.size≤j:=fun j q=>by
   rcases q with q | ⟨c,hc,q⟩
   ·exact (World.ownsRow.lt rt j q).1
   ·exact ((ot.o c hc).lt q).1
  rcases q with q | q
  ·rw [eX] at q
   rcases q with q | ⟨x,hx,q⟩
   ·exact h.nb j (.inl (.inl q)) e
   ·rcases List.mem_append.1 hx with hx | hx
    ·exact h.nb j (.inl (.inr ⟨x,List.mem_append_left _ hx,q⟩)) e
    ·rcases List.mem_cons.1 hx with hx | hx
     ·rw [hx] at q;have:=lt' j q;omega
     ·exact h.nb j (.inl (.inr ⟨x,List.mem_append_right _ (by rw [hdr];exact List.mem_cons_of_mem _ hx),q⟩)) e
  ·have:=((CsB.of r3 o3).hi j q).1;omega
 ·intro j q1 q2
  rw [eX] at q1;have l1:=((PpB.of r2 o2).hi j q1).2;have l2:=((CsB.of r3 o3).hi j q2).1;omega
 ·rw [List.map_append,h.kx,List.take_add_one,hS,List.map_append,List.map_singleton,kt]
  rfl
 ·refine m.pm.trans ?_
  rw [List.map_append,allC_step hS,List.filter_append,List.map_append];have q:=key_len hts;rw [(filter_key (hk.trans q.2.1)).1];exact h.pm.append_right _
 ·exact chain (g.below (chain h.b hb1) (by omega) (fun k e=>by omega)) (b3)
theorem SmC.sh (h:SmC w wr bx p v M S k X u C) (q:QS S) (hk:M.map Sd.key=S.map Sd.key) (hM:M[k]?=some t) (hl:X.length=k):t.L.length≤60∧(∀ c∈t.L,AgOk c.g∧AgSm c.g∧c.s.size≤maxLen)∧(∀ c∈t.L,PlG c.g c.p)∧CesAt wr t.ao t.L∧AscC t.L∧(X ++ M.drop k)[k]?=some t:=by
 have ht:=List.mem_of_getElem? hM;obtain ⟨hi2,em⟩:=List.getElem?_eq_some_iff.1 hM;have hdr:M.drop k=t :: M.drop (k+1):=by rw [← em];exact List.drop_eq_getElem_cons hi2
 have hin:t∈X ++ M.drop k:=by rw [hdr];simp
 obtain ⟨s,hs,_,e⟩:=sds_mem hk ht;have el:=congrArg List.length e;rw [List.length_map,List.length_map] at el;have hq:=sds_all hk (fun _ s g=>AgOk g∧AgSm g∧s.size≤maxLen) (fun t ht c hc=>⟨(q.ok t ht c hc).1,(q.ok t ht c hc).2.1,(q.ok t ht c hc).2.2.1⟩);have hc:=all_ap h.o.o hin;refine ⟨by have:=q.l s hs;omega,hq t ht,fun c hc'=>(hc.o c hc').plgX,OwnC.at (h.o.r t hin) hc.at,asc_key e (q.asc s hs),?_⟩;rw [hdr,← hl,List.getElem?_append_right (Nat.le_refl _)];simp
theorem SmC.mg (h:SmC w wr bx p v M S k X u C) (q:QS S) (hS:S[k]?=some s) (hts:t.key=s.key) (hk:A.map Ce.key=t.L.map Ce.key):C.length≤720∧(∀ c∈C,AgOk c.g∧AgSm c.g∧c.s.size≤maxLen)∧AscC (A.filter (isW p.d))∧∀ c∈A.filter (isW p.d),¬ HasK C c.n c.s:=by
 have hsm:=List.mem_of_getElem? hS;have hk2:=hk.trans (key_len hts).2.1
 have hmem:∀ c∈C,∃ d∈allC (S.take k),d.n=c.n∧d.s=c.s∧d.g=c.g:=fun c hc=>by
  have hm:c.key∈((allC (S.take k)).filter (isW p.d)).map Ce.key:=h.pm.mem_iff.1 (List.mem_map_of_mem hc);obtain ⟨d,hd,e⟩:=List.mem_map.1 hm;obtain ⟨x1,x2,x3⟩:=key3 e;exact ⟨d,(List.mem_filter.1 hd).1,x1,x2,x3⟩
 refine ⟨?_,fun c hc=>?_,(asc_key hk2 (q.asc s hsm)).sublist List.filter_sublist,fun c hc ⟨d,hd,e1,e2⟩=>?_⟩
 ·have h1:=h.pm.length_eq
  rw [List.length_map,List.length_map] at h1;have h2:=List.length_filter_le (isW p.d) (allC (S.take k));have h3:=allC_len (S:=S.take k) 60 (fun s hs=>q.l s (List.mem_of_mem_take hs));have h4:=q.n;have h5:(S.take k).length≤S.length:=by rw [List.length_take];omega
  omega
 ·obtain ⟨d,hd,_,e2,e3⟩:=hmem c hc
  obtain ⟨x,hx,hdx⟩:=mem_allC hd;have:=q.ok x (List.mem_of_mem_take hx) d hdx;rw [← e2,← e3];exact ⟨this.1,this.2.1,this.2.2.1⟩
 ·have hcA:c.key∈s.L.map Ce.key:=by rw [← hk2];exact List.mem_map_of_mem (List.mem_filter.1 hc).1
  obtain ⟨c',hc',e⟩:=List.mem_map.1 hcA;obtain ⟨x1,x2,_⟩:=key3 e;obtain ⟨d',hd',y1,y2,_⟩:=hmem d hd;exact q.dj k s hS c' hc' ⟨d',hd',by rw [y1,e1,x1],by rw [y2,e2,x2]⟩
end
theorem ownD_addr {w:World} {B:Nat} {v:Value} {M:List Sd} (h:OwnD w B v M) (h0:0<M.length):∃ g c,v=.slice (some ⟨g,0,none⟩) M.length c:=by
 rcases h.2 with ⟨_,q⟩ | ⟨g,cap,cur,e,_⟩
 ·omega
 ·exact ⟨g,cap,e⟩
theorem ownD_row {w:World} {B g n c:Nat} {M:List Sd} (h:OwnD w B (.slice (some ⟨g,0,none⟩) n c) M):∃ cur,w.heap[g]?=some (.cells cur 55 (0,0)):=by
 rcases h.2 with ⟨e,_⟩ | ⟨g',cap,cur,e,_,q,_⟩
 ·cases e
 ·injection e with e1 e2 e3
  injection e1 with e1;injection e1 with e1;subst e1;exact ⟨cur,q⟩
theorem ownD_cell {w:World} {B g n c k:Nat} {M:List Sd} {t:Sd} (h:OwnD w B (.slice (some ⟨g,0,none⟩) n c) M) (hl:LvO w B M) (ht:M[k]?=some t):w.cell? ⟨g,k*2+1,none⟩=some (.slice t.ao t.L.length t.cp):=by
 obtain ⟨b,off,e,hc⟩:=(h.at hl).1 (by have:=(List.getElem?_eq_some_iff.1 ht).1;omega);injection e with e;injection e with e1 e2;subst e1;subst e2;have:=(hc k t ht).2
 simpa using this
theorem key_at {S M:List Sd} {k:Nat} {s t:Sd} (h:M.map Sd.key=S.map Sd.key) (hM:M[k]?=some t) (hS:S[k]?=some s):t.key=s.key:=by
 have e:=congrArg (fun L=>L[k]?) h;simp only [List.getElem?_map,hM,hS,Option.map_some,Option.some.injEq] at e;exact e
set_option maxHeartbeats 16000000 in
theorem c_s_PipeClose {w:World} {ao:Option Addr} {N ca:Nat} {S:List Sd} (p:Pi) (hI:PpI w ao N S) :
  Calls Tryz.prog 30 #[.agg (piArr (.slice ao N ca) p)] w fun e w'=>PoA w (ClR S p) e w':=by
 have HI:=hide hI;have a1:∀ (X:World) o,Below X.heap.size X (X.alloc o):=fun X o=>(Below.refl _ _).alloc (Nat.le_refl _) _;have k0:=heap_alloc_new w (.cells (piArr (.slice ao N ca) p) 29);have k1:=heap_alloc_new (w.alloc (.cells (piArr (.slice ao N ca) p) 29)) (.cells (poArr (.slice none 0 0) q0 (.slice none 0 0) 0) 41);simp only [World.size_alloc] at k1;have HR0:=hide (hpast k0 (a1 _ (.cells (poArr (.slice none 0 0) q0 (.slice none 0 0) 0) 41)));have HR1:=hide k1;have HT0:=hide (chain (a1 w (.cells (piArr (.slice ao N ca) p) 29)) (a1 _ (.cells (poArr (.slice none 0 0) q0 (.slice none 0 0) 0) 41)));clear hI a1 k0 k1;go_enter Tryz.func30,Tryz.ntmps30;go_upto_region 1 with fail;generalize (w.alloc (.cells (piArr (.slice ao N ca) p) 29)).alloc (.cells (poArr (.slice none 0 0) q0 (.slice none 0 0) 0) 41)=W0 at HR0 HR1 HT0 ⊢;have hlo:w.heap.size+1+1≤W0.heap.size:=(Array.getElem?_eq_some_iff.1 HR1.out).1;have HLO:=hide hlo;clear hlo;obtain ⟨x0,x1,x2,x3,x4⟩:=box5 HR0.out;go_wp2_with fail;clear x0 x1 x2 x3 x4;refine (c_s_PipeRight p HI.out.n HI.out.sm HI.out.ok (sds_past HI.out.at' HT0.out)).mono ?_;rintro e w1 ⟨rfl,hb1⟩;have HR01:=hide (hpast HR0.out hb1);have HR11:=hide (hpast HR1.out hb1);have HT1:=hide (chain HT0.out hb1);have HLO1:=hide (Nat.le_trans HLO.out hb1.size);clear hb1 HR0 HR1
 cases hp:pipB S p with
 | false=>
  have HF:Hid (ClR S p q0 (([]:List Sd).map Sd.key) (([]:List Ce).map Ce.key) 1):=hide (by unfold ClR;rw [if_pos hp];exact ⟨rfl,rfl,rfl,rfl⟩);clear hp HR01;go_wp2_with fail;refine (c_l10Ill 1 _).mono ?_;rintro e wz ⟨rfl,hbz⟩;have R1:=hpast HR11.out hbz;have HTz:=hide (chain HT1.out hbz);clear hbz;obtain ⟨y0,y1,y2,y3,y4,y5,y6⟩:=box7 R1;have f0:=fzR 0 R1;have f1:=fzR 1 R1;have f2:=fzR 2 R1;have f3:=fzR 3 R1;have f4:=fzR 4 R1;have f5:=fzR 5 R1;have f6:=fzR 6 R1;clear R1;go_wp2;refine bodyPost_ret (v:=.agg (poArr (.slice none 0 0) q0 (.slice none 0 0) 1)) (by simp [results,Tryz.results30,go_sem,y0,y1,y2,y3,y4,y5,y6]) rfl ?_;have hC:=CpP.sets7 (v0:=.slice none 0 0) (v1:=.int .i64 0) (v2:=.int .i64 0) (v3:=.int .i64 0) (v4:=.int .i64 0) (v5:=.slice none 0 0) (v6:=.int .i64 1) (fun j q=>by cases q) (LvO.nil _ _) (nilP HTz.out);exact ⟨none,0,0,q0,[],none,0,0,[],1,rfl,HF.out,PoB.none hC.r hC.o,hC.b⟩
 | true=>
  have HP:=hide hp;clear hp;have HQ:=hide (HI.out.qs HP.out);obtain ⟨a1,a2,b1,b2,c1,c2,d1,d2⟩:=clk_parts HP.out;have m0:0≤(p.d+1)*p.a:=Int.mul_nonneg (by omega) (by omega);have m1:(p.d+1)*p.a≤1000000001*1000:=Int.mul_le_mul (by omega) a2 (by omega) (by omega);have m2:(p.d+1)*1≤(p.d+1)*p.a:=Int.mul_le_mul_of_nonneg_left a1 (by omega);have hw1:IntKind.i64.wrap (p.d+1)=p.d+1:=IntWalk.i64_in _ ⟨by omega,by omega⟩;have hw2:IntKind.i64.wrap ((p.d+1)*p.a)=(p.d+1)*p.a:=IntWalk.i64_in _ ⟨by omega,by omega⟩;have hw3:IntKind.i64.wrap ((p.d+1)*p.a+p.b)=(p.d+1)*p.a+p.b:=IntWalk.i64_in _ ⟨by omega,by omega⟩;obtain ⟨x0,x1,x2,x3,x4⟩:=box5 HR01.out;by_cases hc:p.c<(p.d+1)*p.a+p.b
  ·have HF:Hid (ClR S p q0 (([]:List Sd).map Sd.key) (([]:List Ce).map Ce.key) 11):=hide (by unfold ClR;rw [if_neg (by rw [HP.out];simp),if_pos hc];exact ⟨rfl,rfl,rfl,rfl⟩)
   clear a1 a2 b1 b2 c1 c2 d1 d2 m0 m1 m2;go_wp2_with fail;refine (c_l10Ill 11 _).mono ?_;rintro e wz ⟨rfl,hbz⟩;have R1:=hpast HR11.out hbz;have HTz:=hide (chain HT1.out hbz);clear hbz;obtain ⟨y0,y1,y2,y3,y4,y5,y6⟩:=box7 R1;have f0:=fzR 0 R1;have f1:=fzR 1 R1;have f2:=fzR 2 R1;have f3:=fzR 3 R1;have f4:=fzR 4 R1;have f5:=fzR 5 R1;have f6:=fzR 6 R1;clear R1;go_wp2;refine bodyPost_ret (v:=.agg (poArr (.slice none 0 0) q0 (.slice none 0 0) 11)) (by simp [results,Tryz.results30,go_sem,y0,y1,y2,y3,y4,y5,y6]) rfl ?_;have hC:=CpP.sets7 (v0:=.slice none 0 0) (v1:=.int .i64 0) (v2:=.int .i64 0) (v3:=.int .i64 0) (v4:=.int .i64 0) (v5:=.slice none 0 0) (v6:=.int .i64 11) (fun j q=>by cases q) (LvO.nil _ _) (nilP HTz.out);exact ⟨none,0,0,q0,[],none,0,0,[],11,rfl,HF.out,PoB.none hC.r hC.o,hC.b⟩
  have HF:Hid (∀ (X:List Sd) (C:List Ce),X.map Sd.key=S.map (restS p.d)→AscC C→(C.map Ce.key).Perm (((allC S).filter (isW p.d)).map Ce.key)→ClR S p ⟨p.a,p.b,p.c,p.d+1⟩ (X.map Sd.key) (C.map Ce.key) 0):=hide (fun X C h1 h2 h3=>by
   unfold ClR;rw [if_neg (by rw [HP.out];simp),if_neg hc];exact ⟨rfl,rfl,h1,C,h2,h3,rfl⟩)
  have hne:(p.d == 1000000000)=false:=by simpa using (by omega:¬ p.d=1000000000)
  clear a1 a2 b1 b2 c1 c2 d1 d2 m0 m1 m2;go_wp2_with fail;clear x0 x1 x2 x3 x4 hne hw2 hw3;refine (c_l10Copy p (HI.out.past HT1.out)).mono ?_;rintro e w2 ⟨v,M,rfl,hC⟩;have hMl:M.length=N:=by have h:=congrArg List.length hC.ky;rw [List.length_map,List.length_map] at h;rw [h];exact HI.out.n
  have hN1:1≤N:=by have h:=(memb_len (sds_memB (pip_parts HP.out).1)).1;rw [List.length_map] at h;have:=HI.out.n;omega
  have hN12:N≤12:=by have:=HQ.out.n;have:=HI.out.n;omega
  obtain ⟨gs,cs,rfl⟩:=ownD_addr hC.r (by omega);rw [hMl] at hC ⊢;have HKy:=hide hC.ky;have HZ2:Hid (w1.heap.size≤w2.heap.size):=hide hC.b.size
  have HI0:Hid (SmC w1 ((w2.alloc (.cells (piArr (.slice (some ⟨gs,0,none⟩) N cs) p) 29)).alloc (.cells #[] 69)) w2.heap.size p (.slice (some ⟨gs,0,none⟩) N cs) M S 0 [] (.slice (some ⟨w2.heap.size+1,0,none⟩) 0 0) []):=by
   have al1:Below w2.heap.size w2 (w2.alloc (.cells (piArr (.slice (some ⟨gs,0,none⟩) N cs) p) 29)):=(Below.refl _ _).alloc (Nat.le_refl _) _;have al2:Below (w2.alloc (.cells (piArr (.slice (some ⟨gs,0,none⟩) N cs) p) 29)).heap.size (w2.alloc (.cells (piArr (.slice (some ⟨gs,0,none⟩) N cs) p) 29)) ((w2.alloc (.cells (piArr (.slice (some ⟨gs,0,none⟩) N cs) p) 29)).alloc (.cells #[] 69)):=(Below.refl _ _).alloc (Nat.le_refl _) _;have mk:=OwnC.made (w2.alloc (.cells (piArr (.slice (some ⟨gs,0,none⟩) N cs) p) 29)) #[] rfl;rw [World.size_alloc] at mk;have lp:∀ j,PBlk (.slice (some ⟨gs,0,none⟩) N cs) M j→j<w2.heap.size:=fun j q=>((PpB.of hC.r hC.o).hi j q).2;have zz:=hC.b.size;refine hide ⟨hpast (heap_alloc_new w2 (.cells (piArr (.slice (some ⟨gs,0,none⟩) N cs) p) 29)) al2,fun j q e=>?_,(hC.r.past al1).past al2,(hC.o.past al1).past al2,mk.le (by omega),CesO.nil _ _,fun j q1 q2=>?_,rfl,.nil,by simp [allC],(fun e=>by cases e),chain (chain hC.b al1) al2⟩
   ·rcases q with q | q
    ·have:=lp j q;omega
    ·rcases q with q | ⟨c,hc,_⟩
     ·have q:w2.heap.size+1=j:=Option.some.inj q
      omega
     ·cases hc
   ·have:=lp j q1
    rcases q2 with q | ⟨c,hc,_⟩
    ·have q:w2.heap.size+1=j:=Option.some.inj q
     omega
    ·cases hc
  clear hC;go_upto_region 9 with fail;generalize (w2.alloc (.cells (piArr (.slice (some ⟨gs,0,none⟩) N cs) p) 29)).alloc (.cells #[] 69)=W3 at HI0 ⊢;obtain ⟨bx,hbx⟩:∃ b,w2.heap.size=b:=⟨_,rfl⟩;have HBx:Hid (w1.heap.size≤bx):=hide (by rw [← hbx];exact HZ2.out);rw [hbx] at HI0 ⊢;clear hbx;generalize bx+1=gu0 at HI0 ⊢;go_wp2
  go_loopw [4,5] (fun u i wr=>∃ (k gu nu cu:Nat) (X:List Sd) (C:List Ce),k≤N∧i=.int .i64 k∧u=.slice (some ⟨gu,0,none⟩) nu cu∧X.length=k∧Hid (SmC w1 wr bx p (.slice (some ⟨gs,0,none⟩) N cs) M S k X (.slice (some ⟨gu,0,none⟩) nu cu) C)) (fun u i wr=>N - (Go.RowKit.intOf i).toNat)
  case atStart=>exact ⟨0,_,_,_,[],[],Nat.zero_le _,rfl,rfl,rfl,HI0⟩
  case round=>
   clear HI0;obtain ⟨k,gu,nu,cu,X,C,hk,rfl,rfl,hXl,HJ⟩:=hrel;by_cases hkn:k<N
   ·have hkni:(k:Int)<(N:Int):=by omega
    have r0:=cellP HJ.out.xb 0 rfl;obtain ⟨t,ht⟩:∃ t,M[k]?=some t:=⟨M[k]'(by omega),List.getElem?_eq_getElem _⟩;obtain ⟨s,hs⟩:∃ s,S[k]?=some s:=⟨S[k]'(by have:=HI.out.n;omega),List.getElem?_eq_getElem _⟩;have HKt:=hide (key_at HKy.out ht hs);obtain ⟨l60,hqt,hpt,hct,hat,hin⟩:=HJ.out.sh HQ.out HKy.out ht hXl;have HTm:=hide ht;have HSm:=hide hs;have HQt:=hide hqt;have HPt:=hide hpt;have HCt:=hide hct;have HIn:=hide hin;have hwk:IntKind.i64.wrap ((k:Int)+1)=((k+1:Nat):Int):=by rw [show (k:Int)+1=((k+1:Nat):Int) by omega];exact IntWalk.i64_in _ ⟨by omega,by omega⟩
    clear ht hs hqt hpt hct hat hin;go_upto_region 12 with fail;clear r0;have HS0:Hid ((fun W=>Below wr.heap.size wr W) wr.drew):=(Below.refl _ _).drew;refine regionK (fun W=>Below wr.heap.size wr W) 13 (by kernel_rfl) ?_;refine tkS (i:=0) (v:=.pointer (some ⟨bx,0,none⟩)) rfl rfl HS0.out ?_;refine tkL (i:=1) (v:=.slice (some ⟨gs,0,none⟩) N cs) rfl rfl HS0.out (fun W hW=>?_) ?_
    ·have q0:=cellP (hpast HJ.out.xb hW) 0 rfl
     clear hW;go_simp
    refine tkS (i:=2) (v:=.int .i64 k) rfl rfl HS0.out ?_;simp only [sA,sB,sC];refine tkS (i:=3) (v:=.pointer (some ⟨gs,k*2,none⟩)) rfl rfl HS0.out ?_;refine tkS (i:=4) (v:=.pointer (some ⟨gs,k*2+1,none⟩)) rfl rfl HS0.out ?_;refine tkL (i:=5) (v:=.slice t.ao t.L.length t.cp) rfl rfl HS0.out (fun W hW=>?_) ?_
    ·have q0:=ownD_cell (HJ.out.past hW).r (HJ.out.past hW).o HIn.out
     clear hW;go_simp
    simp only [sA,sB,sC];refine tkS (i:=6) (v:=.pointer (some ⟨w.heap.size,4,none⟩)) rfl rfl HS0.out ?_;refine tkL (i:=7) (v:=.int .i64 p.d) rfl rfl HS0.out (fun W hW=>?_) ?_
    ·have q0:=cellP (hpast (hpast HR01.out HJ.out.b) hW) 4 rfl
     clear hW;go_simp
    simp only [sA,sB,sC];refine oneK (i:=8) (by kernel_rfl) rfl (fun K0 hK0=>?_);go_simp;refine (c_l08Take p.d rfl (by omega) (fun c hc=>(HQt.out c hc).2.1) HPt.out (ces_past HCt.out HS0.out)).mono ?_;rintro e w4 ⟨vo,vr,A,rfl,ho4,hr4,_,hA4,hk4,hb4⟩;obtain ⟨ax,cx,rfl,_⟩:=ho4.form;obtain ⟨ar,cr,rfl,_⟩:=hr4.form;have HB4:Hid (Below wr.heap.size wr w4):=chain HS0.out hb4;have HO4:=hide (ho4.le HS0.out.size);have HR4:=hide (hr4.le HS0.out.size);have HA4:=hide (hA4.le HS0.out.size);have HK4:=hide hk4;clear ho4 hr4 hA4 hk4 hb4;dsimp only;refine hK0.out _ _ (fun _=>HB4.out) ?_;clear hK0 K0
    try simp only [Act.put,sA,sB,sC]
    refine tkS (i:=9) (v:=.tuple #[.slice ax (A.filter (isW p.d)).length cx,.slice ar (A.filter (fun c=>!isW p.d c)).length cr]) rfl rfl HB4.out ?_;refine tkS (i:=10) (v:=.slice ax (A.filter (isW p.d)).length cx) rfl rfl HB4.out ?_;refine tkS (i:=11) (v:=.slice ar (A.filter (fun c=>!isW p.d c)).length cr) rfl rfl HB4.out ?_;simp only [sA,sB,sC];refine oneK (i:=12) (by kernel_rfl) rfl (fun K0 hK0=>?_);go_simp;refine hK0.out _ _ (fun _=>HB4.out) ?_;clear hK0 K0
    try simp only [Act.put,sA,sB,sC]
    refine oneK (i:=13) (by kernel_rfl) rfl (fun K0 hK0=>?_);go_simp;refine hK0.out _ _ (fun h=>absurd rfl h) ?_;clear hK0 K0
    try simp only [Act.put,sA,sB,sC]
    refine doneK (by kernel_rfl) ?_ _;have HJ4:=hide (HJ.out.past HB4.out);have r0:=cellP HJ4.out.xb 0 rfl;have q1:=ownD_cell HJ4.out.r HJ4.out.o HIn.out;obtain ⟨cur,hrow⟩:=ownD_row HJ4.out.r;have fz:=fzR (k*2+1) hrow;clear hrow;go_upto_region 14 with fail;clear r0 q1 fz;obtain ⟨mc,mo,ma,md⟩:=HJ.out.mg HQ.out HSm.out HKt.out HK4.out;have g:=(grS (grown_one w4 gs (k*2+1) (.slice ar (A.filter (fun c=>!isW p.d c)).length cr))).weak (T:=fun k=>k=gs) (fun k e=>by injection e with e;exact e.symm);have c5:=HJ4.out.c.keptS g (fun j q e=>HJ4.out.ap j (.inl (by rw [e];rfl)) (.inl q));have d5:=HJ4.out.d.keptS g (fun c hc j q e=>HJ4.out.ap j (.inl (by rw [e];rfl)) (.inr ⟨c,hc,q⟩));have hgw:=(World.ownsRow.lt HJ.out.r gs rfl).2;have o5:=HO4.out.keptS g (fun j q e=>by have:=(World.ownsRow.lt HO4.out j q).1;omega);have a5:=HA4.out.keptS g (fun c hc j q e=>by have:=((HA4.out.o c hc).lt q).1;omega);have hcl:C.length=nu:=ownC_len c5
    have hqA:∀ c∈A,AgOk c.g∧AgSm c.g∧c.s.size≤maxLen:=fun c hc=>by
     obtain ⟨d,hd,e1,e2,e3⟩:=ces_mem HK4.out hc;rw [← e2,← e3];exact HQt.out d hd
    have hAl:A.length≤60:=by have h:=congrArg List.length HK4.out;rw [List.length_map,List.length_map] at h;omega
    have hfl:=List.length_filter_le (isW p.d) A;have HI5:Hid (ShI (w4.setCell ⟨gs,k*2+1,none⟩ (.slice ar (A.filter (fun c=>!isW p.d c)).length cr)) (some ⟨gu,0,none⟩) nu C):=hide ⟨hcl,by omega,fun c hc=>(mo c hc).1,fun c hc=>(mo c hc).2.1,fun c hc=>(mo c hc).2.2,fun c hc=>(d5.o c hc).plgX,OwnC.at c5 d5.at⟩;have HJ5:Hid (ShI (w4.setCell ⟨gs,k*2+1,none⟩ (.slice ar (A.filter (fun c=>!isW p.d c)).length cr)) ax (A.filter (isW p.d)).length (A.filter (isW p.d))):=hide ⟨rfl,by omega,fun c hc=>(hqA c (List.mem_filter.1 hc).1).1,fun c hc=>(hqA c (List.mem_filter.1 hc).1).2.1,fun c hc=>(hqA c (List.mem_filter.1 hc).1).2.2,fun c hc=>(a5.o c (List.mem_filter.1 hc).1).plgX,OwnC.at o5 (a5.filt _).at⟩;have HMa:=hide ma;have HMd:=hide md;clear g c5 d5 o5 a5 hqA ma md mo hgw;go_wp2_with fail;refine (c_l08MergeD HI5.out HJ5.out HJ.out.asc HMa.out HMd.out (by omega) (by omega)).mono ?_;rintro e w6 ⟨v1,R1,rfl,hm6,hr6,ho6,hne6,hb6⟩;have HN:=hide (HJ.out.step hXl HTm.out HSm.out HKt.out HB4.out HR4.out HA4.out HK4.out hm6 hr6 ho6 hne6 hb6);obtain ⟨g6,c6,rfl,_⟩:=hr6.src hne6;clear hm6 hr6 ho6 hne6 hb6 HI5 HJ5 HJ4 HJ HB4 HR4 HA4 HK4 HO4;go_wp2;go_roundw
    case rel=>exact ⟨k+1,_,_,_,_,_,by omega,by first | rfl | go_num,rfl,by simp;omega,HN⟩
    case measure=>simp [Go.RowKit.intOf];omega
   ·have hkni:¬ (k:Int)<(N:Int):=by omega
    obtain rfl:k=N:=by omega
    have hdn:M.drop k=[]:=List.drop_eq_nil_of_le (by omega);have hst:S.take k=S:=List.take_of_length_le (by have:=HI.out.n;omega);have hkx:=HJ.out.kx;have hpm:=HJ.out.pm;rw [hst] at hkx hpm;have HFX:=hide (HF.out X C hkx HJ.out.asc hpm);have X1:=HJ.out.xb;obtain ⟨x0,x1,x2,x3,x4⟩:=box5 X1;have p4:=cellP (hpast HR01.out HJ.out.b) 4 rfl;have fx:=fzR 4 X1;have hbw:w1.heap.size≤bx:=HBx.out;have hl1:=HLO1.out;have X5:=heap_setCell_same wr bx 4 _ _ (.int .i64 (p.d+1)) X1;have g5:=(grS (grown_one wr bx 4 (.int .i64 (p.d+1)))).weak (T:=fun k=>k=bx) (fun k e=>by injection e with e;exact e.symm);have R1:=g5.row (hpast HR11.out HJ.out.b) (fun e=>by omega);have HX5:=hide X5;have HG5:=hide g5;have HR15:=hide R1;clear hkx hpm X1 X5 g5 R1 hst;go_upto_region 16 with fail;clear x0 x1 x2 x3 x4 p4 fx;generalize hW5:wr.setCell ⟨bx,4,none⟩ (.int .i64 (p.d+1))=W5 at HX5 HG5 HR15 ⊢;obtain ⟨x0,x1,x2,x3,x4⟩:=box5 (show W5.heap[bx]?=some (.cells (piArr (.slice (some ⟨gs,0,none⟩) k cs) ⟨p.a,p.b,p.c,p.d+1⟩) 29 (0,0)) by simpa using HX5.out);have R1:=HR15.out;obtain ⟨y0,y1,y2,y3,y4,y5,y6⟩:=box7 R1;have f0:=fzR 0 R1;have f1:=fzR 1 R1;have f2:=fzR 2 R1;have f3:=fzR 3 R1;have f4:=fzR 4 R1;have f5:=fzR 5 R1;have f6:=fzR 6 R1;clear R1;go_wp2;refine bodyPost_ret (v:=.agg (poArr (.slice (some ⟨gs,0,none⟩) k cs) ⟨p.a,p.b,p.c,p.d+1⟩ (.slice (some ⟨gu,0,none⟩) nu cu) 0)) (by simp [results,Tryz.results30,go_sem,y0,y1,y2,y3,y4,y5,y6]) rfl ?_;have hr:=HJ.out.r;have ho:=HJ.out.o;have nb:=HJ.out.nb;have ap:=HJ.out.ap;rw [hdn,List.append_nil] at hr ho nb ap;have r5:=hr.keptS HG5.out (fun j q e=>nb j (.inl (.inl q)) e);have o5:=ho.keptS HG5.out (fun x hx j q e=>nb j (.inl (.inr ⟨x,hx,q⟩)) e);have c5:=HJ.out.c.keptS HG5.out (fun j q e=>nb j (.inr (.inl q)) e);have d5:=HJ.out.d.keptS HG5.out (fun c hc j q e=>nb j (.inr (.inr ⟨c,hc,q⟩)) e);have hzw:=HJ.out.b.size;have b5:=HG5.out.below (chain HT1.out HJ.out.b) (by omega) (fun k e=>by omega);have g7:=grown7 W5 (w.heap.size+1) (.slice (some ⟨gs,0,none⟩) k cs) (.int .i64 p.a) (.int .i64 p.b) (.int .i64 p.c) (.int .i64 (p.d+1)) (.slice (some ⟨gu,0,none⟩) nu cu) (.int .i64 0);have lo5:LvO W5 (w.heap.size+1+1) X:=o5.le (by omega);have hC:=CpP.sets7 (w:=w) (S:=X) (v0:=.slice (some ⟨gs,0,none⟩) k cs) (v1:=.int .i64 p.a) (v2:=.int .i64 p.b) (v3:=.int .i64 p.c) (v4:=.int .i64 (p.d+1)) (v5:=.slice (some ⟨gu,0,none⟩) nu cu) (v6:=.int .i64 0) (fun j q=>by have:=(World.ownsRow.lt r5 j q).1;omega) lo5 ⟨r5.le (by omega),lo5.le (by omega),rfl,b5⟩;have ru:=(c5.keptS g7 (fun k q e=>by have:=(World.ownsRow.lt c5 k q).1;omega)).le (by omega:w.heap.size≤w1.heap.size);have ou:=(d5.keptS g7 (fun c hc k q e=>by have:=((d5.o c hc).lt q).1;omega)).le (by omega:w.heap.size≤w1.heap.size);exact ⟨_,_,_,_,X,_,_,_,C,0,rfl,HFX.out,⟨PpB.of hC.r hC.o,CsB.of ru ou,ap⟩,hC.b⟩
end Go.Proofs.YtmjogablacnlgaaGreatDoor
