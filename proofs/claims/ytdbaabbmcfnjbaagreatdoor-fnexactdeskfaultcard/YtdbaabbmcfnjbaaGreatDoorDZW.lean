/-
 Parts.
-/
import Derived.Test.YtdbaabbmcfnjbaaGreatDoorDZT
set_option maxHeartbeats 16000000
set_option linter.all false
namespace Go.Proofs.YtdbaabbmcfnjbaaGreatDoor
open Go.ChangeShapes Go.WideShapes Go.ChangeAt Go.RowKit Go.PlainAid Go.Lib Go.Maps Tryz
set_option maxRecDepth 10000
structure SmC (w wr:World) (bx:Nat) (p:Pi) (v:Value) (M S:List Sd) (k:Nat) (X:List Sd) (u:Value) (C:List Ce):Prop where
 xb:wr.heap[bx]?=some (.cells (Qam v p) 35 (0,0))
 nb:∀ j,QpU v (X ++ M.drop k) j∨Qm1 u C j->j≠bx
 r:OwnD wr w.heap.size v (X ++ M.drop k)
 o:LvO wr w.heap.size (X ++ M.drop k)
 c:OwnC wr w.heap.size u C
 d:CesO wr w.heap.size C
 ap:∀ j,QpU v (X ++ M.drop k) j->¬ Qm1 u C j
 kx:X.map Sd.key=(S.take k).map (Qjv p.d)
 asc:Qck C
 pm:(C.map Ce.key).Perm (((QaN (S.take k)).filter (isW p.d)).map Ce.key)
 ne:u≠.slice none 0 0
 b:Below w.heap.size w wr
variable {B c g k n:Nat}
section
variable {w wr w' w1 w3:World} {bx k gs n cs nr cr:Nat} {p:Pi} {v u vr vo u1:Value} {M S X:List Sd} {C A R:List Ce} {s t:Sd} {ar:Option Addr}
theorem SmC.past (h:SmC w wr bx p v M S k X u C) (hb:Below wr.heap.size wr w'):SmC w w' bx p v M S k X u C:=
 ⟨QaA h.xb hb,h.nb,h.r.past hb,h.o.past hb,h.c.past hb,h.d.past hb,h.ap,h.kx,h.asc,h.pm,h.ne,Qac h.b hb⟩
theorem LvO.swap {Y Z:List Sd} (h:LvO w B (Y ++ t :: Z)) (hr:OwnC w B (slS s) s.L) (ho:CesO w B s.L) (ha:∀ x,x∈Y∨x∈Z->∀ j,Qm1 (slS x) x.L j->¬ Qm1 (slS s) s.L j):LvO w B (Y ++ s :: Z):=by
 obtain ⟨p1,p2,p3⟩:=List.pairwise_append.1 h.rap;obtain ⟨p4,p5⟩:=List.pairwise_cons.1 p2;have e:∀ x:Sd,QaN (Y ++ x :: Z)=QaN Y ++ (x.L ++ QaN Z):=fun x=>by simp [QaN]
 have hd:=h.o;rw [e] at hd;obtain ⟨d1,d2,d3⟩:=List.pairwise_append.1 hd.ap;obtain ⟨d4,d5,d6⟩:=List.pairwise_append.1 d2;refine ⟨fun x hx=>?_,List.pairwise_append.2 ⟨p1,List.pairwise_cons.2 ⟨fun x hx j q1 q2=>ha x (.inr hx) j (.inl q2) (.inl q1),p5⟩,fun a hy b hb j q1 q2=>?_⟩,?_⟩
 ·rcases List.mem_append.1 hx with hx | hx
  ·exact h.r x (List.mem_append_left _ hx)
  ·rcases List.mem_cons.1 hx with hx | hx
   ·rw [hx];exact hr
   ·exact h.r x (List.mem_append_right _ (ZZm _ hx))
 ·rcases List.mem_cons.1 hb with hb | hb
  ·rw [hb] at q2;exact ha a (.inl hy) j (.inl q1) (.inl q2)
  ·exact p3 a hy b (ZZm _ hb) j q1 q2
 ·rw [e]
  refine ⟨fun c hc=>?_,List.pairwise_append.2 ⟨d1,List.pairwise_append.2 ⟨ho.ap,d5,fun c hc d hd j q1 q2=>?_⟩,fun c hc d hd j q1 q2=>?_⟩⟩
  ·rcases List.mem_append.1 hc with hc | hc
   ·exact hd.o c (List.mem_append_left _ hc)
   ·rcases List.mem_append.1 hc with hc | hc
    ·exact ho.o c hc
    ·exact hd.o c (List.mem_append_right _ (List.mem_append_right _ hc))
  ·obtain ⟨x,hx,aa⟩:=Qbq hd
   exact ha x (.inr hx) j (.inr ⟨d,aa,q2⟩) (.inr ⟨c,hc,q1⟩)
  ·obtain ⟨x,hx,ab⟩:=Qbq hc
   rcases List.mem_append.1 hd with hd | hd
   ·exact ha x (.inl hx) j (.inr ⟨c,ab,q1⟩) (.inr ⟨d,hd,q2⟩)
   ·exact d3 c hc d (List.mem_append_right _ hd) j q1 q2
theorem CesO.filt {L:List Ce} (h:CesO w B L) (f:Ce->Bool):CesO w B (L.filter f):=⟨fun c hc=>h.o c (List.mem_filter.1 hc).1,h.ap.sublist List.filter_sublist⟩
theorem SmC.step (h:SmC w wr bx p (.slice (some ⟨gs,0,none⟩) n cs) M S k X u C) (hkl:X.length=k) (hM:M[k]?=some t) (hS:S[k]?=some s) (hts:t.key=s.key)
  (hb1:Below wr.heap.size wr w1) (hr:OwnC w1 wr.heap.size (.slice ar nr cr) (A.filter (fun c=>!isW p.d c))) (hA:CesO w1 wr.heap.size A) (hk:A.map Ce.key=t.L.map Ce.key)
  (m:MgD C (A.filter (isW p.d)) R) (r3:OwnC w3 (w1.setCell ⟨gs,k*2+1,none⟩ (.slice ar nr cr)).heap.size u1 R) (o3:CesO w3 (w1.setCell ⟨gs,k*2+1,none⟩ (.slice ar nr cr)).heap.size R) (ne:u1≠.slice none 0 0) (b3:Below (w1.setCell ⟨gs,k*2+1,none⟩ (.slice ar nr cr)).heap.size (w1.setCell ⟨gs,k*2+1,none⟩ (.slice ar nr cr)) w3) :
  SmC w w3 bx p (.slice (some ⟨gs,0,none⟩) n cs) M S (k+1) (X ++ [⟨t.nm,A.filter (fun c=>!isW p.d c),ar,cr⟩]) u1 R:=by
 have ag:(A.filter (fun c=>!isW p.d c)).length=nr:=QhG hr;subst ag;have hW:=h.past hb1;have am:w.heap.size<=gs:=(World.ownsRow.lt h.r gs rfl).1;have z1:=hb1.size;have zb:=h.b.size;generalize ht':(⟨t.nm,A.filter (fun c=>!isW p.d c),ar,cr⟩:Sd)=t';have e1:t'.L=A.filter (fun c=>!isW p.d c):=by rw [<- ht']
 have e2:slS t'=.slice ar (A.filter (fun c=>!isW p.d c)).length cr:=by rw [<- ht']
 have e3:t'.nm=t.nm:=by rw [<- ht']
 have g:=(grS (Qal w1 gs (k*2+1) (.slice ar (A.filter (fun c=>!isW p.d c)).length cr))).weak (T:=fun k=>k=gs) (fun k e=>by injection e with e;exact e.symm);have zg:=g.size;obtain ⟨aj,em⟩:=ZZd.1 hM;have af:M.drop k=t :: M.drop (k+1):=by rw [<- em];exact List.drop_eq_getElem_cons aj
 have aa:=hW.r;have ad:=hW.o;have ai:=h.ap;have ab:=h.o;rw [af] at aa ad ai ab;have ak:(X ++ t :: M.drop (k+1))[k]?=some t:=by rw [<- hkl,List.getElem?_append_right (Nat.le_refl _)];simp
 have ac:(X ++ t :: M.drop (k+1)).set k t'=X ++ t' :: M.drop (k+1):=by rw [<- hkl,List.set_append_right _ _ (Nat.le_refl _)];simp
 have r2:=aa.put1 (j:=1) (s':=t') (u:=.slice ar (A.filter (fun c=>!isW p.d c)).length cr) (QhL aa) ak (by omega) (by unfold sdL;rw [<- ht'];rfl);rw [ac] at r2;have oW:=ad.keptS g (fun x hx j q e=>aa.neB ad hx j q (by rw [e];rfl))
 have rt:OwnC (w1.setCell ⟨gs,k*2+1,none⟩ (.slice ar (A.filter (fun c=>!isW p.d c)).length cr)) wr.heap.size (slS t') t'.L:=by
  rw [e1,e2];exact hr.keptS g (fun j q e=>by have:=(World.ownsRow.lt h.r gs rfl).2;have:=(World.ownsRow.lt hr j q).1;omega)
 have ot:CesO (w1.setCell ⟨gs,k*2+1,none⟩ (.slice ar (A.filter (fun c=>!isW p.d c)).length cr)) wr.heap.size t'.L:=by
  rw [e1];exact (hA.filt _).keptS g (fun c hc j q e=>by have:=(World.ownsRow.lt h.r gs rfl).2;have:=(((hA.filt _).o c hc).lt q).1;omega)
 have o2:LvO (w1.setCell ⟨gs,k*2+1,none⟩ (.slice ar (A.filter (fun c=>!isW p.d c)).length cr)) w.heap.size (X ++ t' :: M.drop (k+1)):=oW.swap (rt.le zb) (ot.le zb) (fun x hx j q1 q2=>by
  have ae:x∈X ++ t :: M.drop (k+1):=by rcases hx with hx | hx <;> simp [hx]
  have l1:j<wr.heap.size:=by
   rcases q1 with q1 | ⟨c,hc,q1⟩
   ·exact (World.ownsRow.lt (ab.r x ae) j q1).2
   ·exact ((ab.o.o c (QnP ae hc)).lt q1).2
  have l2:wr.heap.size<=j:=by
   rcases q2 with q2 | ⟨c,hc,q2⟩
   ·exact (World.ownsRow.lt rt j q2).1
   ·exact ((ot.o c hc).lt q2).1
  omega)
 have eX:(X ++ [t']) ++ M.drop (k+1)=X ++ t' :: M.drop (k+1):=by simp
 have kt:t'.key=Qjv p.d s:=by
  have q:=Qcx hts;unfold Sd.key Qjv;rw [e1,e3,q.1,(QeT (hk.trans q.2.1)).2]
 refine ⟨QaA (g.row hW.xb (fun e=>h.nb gs (.inl (.inl rfl)) e.symm)) b3,?_,by rw [eX];exact r2.past b3,by rw [eX];exact o2.past b3,r3.le (by omega),o3.le (by omega),?_,?_,m.asc,?_,ne,?_⟩
 ·intro j q e
  have al:bx<wr.heap.size:=(ZZc.1 h.xb).1
  have ah:∀ j,Qm1 (slS t') t'.L j->wr.heap.size<=j:=fun j q=>by
   rcases q with q | ⟨c,hc,q⟩
   ·exact (World.ownsRow.lt rt j q).1
   ·exact ((ot.o c hc).lt q).1
  rcases q with q | q
  ·rw [eX] at q
   rcases q with q | ⟨x,hx,q⟩
   ·exact h.nb j (.inl (.inl q)) e
   ·rcases List.mem_append.1 hx with hx | hx
    ·exact h.nb j (.inl (.inr ⟨x,List.mem_append_left _ hx,q⟩)) e
    ·rcases List.mem_cons.1 hx with hx | hx
     ·rw [hx] at q;have:=ah j q;omega
     ·exact h.nb j (.inl (.inr ⟨x,List.mem_append_right _ (by rw [af];exact List.mem_cons_of_mem _ hx),q⟩)) e
  ·have:=((CsB.of r3 o3).hi j q).1;omega
 ·intro j q1 q2
  rw [eX] at q1;have l1:=((PpB.of r2 o2).hi j q1).2;have l2:=((CsB.of r3 o3).hi j q2).1;omega
 ·rw [List.map_append,h.kx,List.take_add_one,hS,List.map_append,List.map_singleton,kt]
  rfl
 ·refine m.pm.trans ?_
  rw [List.map_append,Qjq hS,List.filter_append,List.map_append];have q:=Qcx hts;rw [(QeT (hk.trans q.2.1)).1];exact h.pm.append_right _
 ·exact Qac (g.below (Qac h.b hb1) (by omega) (fun k e=>by omega)) (b3)
theorem SmC.sh (h:SmC w wr bx p v M S k X u C) (q:QS S) (hk:M.map Sd.key=S.map Sd.key) (hM:M[k]?=some t) (hl:X.length=k):t.L.length<=60/\(∀ c∈t.L,AgOk c.g/\AgSm c.g/\c.s.size<=maxLen)/\(∀ c∈t.L,PlG c.g c.p)/\Qcl wr t.ao t.L/\Qck t.L/\(X ++ M.drop k)[k]?=some t:=by
 have ht:=ZZn hM;obtain ⟨ac,em⟩:=ZZd.1 hM;have ab:M.drop k=t :: M.drop (k+1):=by rw [<- em];exact List.drop_eq_getElem_cons ac
 have aa:t∈X ++ M.drop k:=by rw [ab];simp
 obtain ⟨s,hs,_,e⟩:=Qh4 hk ht;have el:=congrArg List.length e;rw [List.length_map,List.length_map] at el;have hq:=Qpp hk (fun _ s g=>AgOk g/\AgSm g/\s.size<=maxLen) (fun t ht c hc=>⟨(q.ok t ht c hc).1,(q.ok t ht c hc).2.1,(q.ok t ht c hc).2.2.1⟩);have hc:=QsG h.o.o aa;refine ⟨by have:=q.l s hs;omega,hq t ht,fun c hc'=>(hc.o c hc').plgX,OwnC.at (h.o.r t aa) hc.at,QeM e (q.asc s hs),?_⟩;rw [ab,<- hl,List.getElem?_append_right (Nat.le_refl _)];simp
theorem SmC.mg (h:SmC w wr bx p v M S k X u C) (q:QS S) (hS:S[k]?=some s) (hts:t.key=s.key) (hk:A.map Ce.key=t.L.map Ce.key):C.length<=720/\(∀ c∈C,AgOk c.g/\AgSm c.g/\c.s.size<=maxLen)/\Qck (A.filter (isW p.d))/\∀ c∈A.filter (isW p.d),¬ Qfk C c.n c.s:=by
 have af:=ZZn hS;have ab:=hk.trans (Qcx hts).2.1
 have aa:∀ c∈C,∃ d∈QaN (S.take k),d.n=c.n/\d.s=c.s/\d.g=c.g:=fun c hc=>by
  have hm:c.key∈((QaN (S.take k)).filter (isW p.d)).map Ce.key:=h.pm.mem_iff.1 (List.mem_map_of_mem hc);obtain ⟨d,hd,e⟩:=List.mem_map.1 hm;obtain ⟨x1,x2,x3⟩:=QnW e;exact ⟨d,(List.mem_filter.1 hd).1,x1,x2,x3⟩
 refine ⟨?_,fun c hc=>?_,(QeM ab (q.asc s af)).sublist List.filter_sublist,fun c hc ⟨d,hd,e1,e2⟩=>?_⟩
 ·have h1:=h.pm.length_eq
  rw [List.length_map,List.length_map] at h1;have h2:=List.length_filter_le (isW p.d) (QaN (S.take k));have h3:=Ql0 (S:=S.take k) 60 (fun s hs=>q.l s (ZZo hs));have h4:=q.n;have h5:(S.take k).length<=S.length:=by rw [List.length_take];omega
  omega
 ·obtain ⟨d,hd,_,e2,e3⟩:=aa c hc
  obtain ⟨x,hx,ad⟩:=Qbq hd;have:=q.ok x (ZZo hx) d ad;rw [<- e2,<- e3];exact ⟨this.1,this.2.1,this.2.2.1⟩
 ·have ag:c.key∈s.L.map Ce.key:=by rw [<- ab];exact List.mem_map_of_mem (List.mem_filter.1 hc).1
  obtain ⟨c',ae,e⟩:=List.mem_map.1 ag;obtain ⟨x1,x2,_⟩:=QnW e;obtain ⟨d',ac,y1,y2,_⟩:=aa d hd;exact q.dj k s hS c' ae ⟨d',ac,by rw [y1,e1,x1],by rw [y2,e2,x2]⟩
end
variable {w:World}
variable {M S:List Sd}
theorem Qjn {v:Value} (h:OwnD w B v M) (h0:0<M.length):∃ g c,v=.slice (some ⟨g,0,none⟩) M.length c:=by
 rcases h.2 with ⟨_,q⟩ | ⟨g,aa,ab,e,_⟩
 ·omega
 ·exact ⟨g,aa,e⟩
theorem Qmd (h:OwnD w B (.slice (some ⟨g,0,none⟩) n c) M):∃ cur,w.heap[g]?=some (.cells cur 60 (0,0)):=by
 rcases h.2 with ⟨e,_⟩ | ⟨g',aa,cur,e,_,q,_⟩
 ·cases e
 ·injection e with e1 e2 e3
  injection e1 with e1;injection e1 with e1;subst e1;exact ⟨cur,q⟩
variable {t:Sd}
theorem Qer (h:OwnD w B (.slice (some ⟨g,0,none⟩) n c) M) (hl:LvO w B M) (ht:M[k]?=some t):w.cell? ⟨g,k*2+1,none⟩=some (.slice t.ao t.L.length t.cp):=by
 obtain ⟨b,aa,e,hc⟩:=(h.at hl).1 (by have:=(ZZd.1 ht).1;omega);injection e with e;injection e with e1 e2;subst e1;subst e2;have:=(hc k t ht).2
 simpa using this
theorem Qr9 {s:Sd} (h:M.map Sd.key=S.map Sd.key) (hM:M[k]?=some t) (hS:S[k]?=some s):t.key=s.key:=by
 have e:=congrArg (fun L=>L[k]?) h;simp only [List.getElem?_map,hM,hS,Option.map_some,Option.some.injEq] at e;exact e
theorem QhZ {ao:Option Addr} {N ca:Nat} (p:Pi) (hI:PpI w ao N S) :
  Calls prog 29 #[.agg (Qam (.slice ao N ca) p)] w fun e w'=>PoA w (ClR S p) e w':=by
 have HI:=Qaa hI;have a1:∀ (X:World) o,Below X.heap.size X (X.alloc o):=fun X o=>(ZZb _ _).alloc (ZZa _) _;have k0:=ZZk w (.cells (Qam (.slice ao N ca) p) 35);have k1:=ZZk (w.alloc (.cells (Qam (.slice ao N ca) p) 35)) (.cells (QaI (.slice none 0 0) q0 (.slice none 0 0) 0) 66);simp only [World.size_alloc] at k1;have aw:=Qaa (QaA k0 (a1 _ (.cells (QaI (.slice none 0 0) q0 (.slice none 0 0) 0) 66)));have an:=Qaa k1;have aB:=Qaa (Qac (a1 w (.cells (Qam (.slice ao N ca) p) 35)) (a1 _ (.cells (QaI (.slice none 0 0) q0 (.slice none 0 0) 0) 66)));clear hI a1 k0 k1;go_enter func29,ntmps29;go_upto_region 1 with fail;generalize (w.alloc (.cells (Qam (.slice ao N ca) p) 35)).alloc (.cells (QaI (.slice none 0 0) q0 (.slice none 0 0) 0) 66)=W0 at aw an aB ⊢;have a0:w.heap.size+1+1<=W0.heap.size:=(ZZc.1 an).1;have bl:=Qaa a0;clear a0;obtain ⟨x0,x1,x2,x3,x4⟩:=QdF aw;go_wp2_with fail;clear x0 x1 x2 x3 x4;refine (Qbz p HI.out.n HI.out.sm HI.out.ok (Qbd HI.out.at' aB)).mono ?_;rintro e w1 ⟨rfl,al⟩;have ac:=Qaa (QaA aw al);have af:=Qaa (QaA an al);have aq:=Qaa (Qac aB al);have az:=Qaa (Nat.le_trans bl al.size);clear al aw an
 cases hp:QaZ S p with
 | false=>
  have HF:Hid (ClR S p q0 (([]:List Sd).map Sd.key) (([]:List Ce).map Ce.key) 1):=Qaa (by unfold ClR;rw [if_pos hp];exact ⟨rfl,rfl,rfl,rfl⟩);clear hp ac;go_wp2_with fail;refine (QaT 1 _).mono ?_;rintro e wz ⟨rfl,ae⟩;have R1:=QaA af ae;have aC:=Qaa (Qac aq ae);clear ae;obtain ⟨y0,y1,y2,y3,y4,y5,y6⟩:=Qd4 R1;obtain ⟨f0,f1,f2,f3,f4,f5,f6⟩:=fA7 R1;clear R1;go_wp2;refine bodyPost_ret (v:=.agg (QaI (.slice none 0 0) q0 (.slice none 0 0) 1)) (by simp [results,results29,go_sem,y0,y1,y2,y3,y4,y5,y6]) rfl ?_;have hC:=CpP.sets7 (v0:=.slice none 0 0) (v1:=.int .i64 0) (v2:=.int .i64 0) (v3:=.int .i64 0) (v4:=.int .i64 0) (v5:=.slice none 0 0) (v6:=.int .i64 1) (fun j q=>by cases q) (LvO.nil _ _) (QpO aC);exact ⟨none,0,0,q0,[],none,0,0,[],1,rfl,HF,PoB.none hC.r hC.o,hC.b⟩
 | true=>
  have HP:=Qaa hp;clear hp;have HQ:=Qaa (HI.out.qs HP);obtain ⟨a1,a2,b1,b2,c1,c2,d1,d2⟩:=Qcj HP;have m0:0<=(p.d+1)*p.a:=Int.mul_nonneg (by omega) (by omega);have m1:(p.d+1)*p.a<=1000000001*1000:=Int.mul_le_mul (by omega) a2 (by omega) (by omega);have m2:(p.d+1)*1<=(p.d+1)*p.a:=Int.mul_le_mul_of_nonneg_left a1 (by omega);have bt:IntKind.i64.wrap (p.d+1)=p.d+1:=ZZi _ ⟨by omega,by omega⟩;have bc:IntKind.i64.wrap ((p.d+1)*p.a)=(p.d+1)*p.a:=ZZi _ ⟨by omega,by omega⟩;have bs:IntKind.i64.wrap ((p.d+1)*p.a+p.b)=(p.d+1)*p.a+p.b:=ZZi _ ⟨by omega,by omega⟩;obtain ⟨x0,x1,x2,x3,x4⟩:=QdF ac;by_cases hc:p.c<(p.d+1)*p.a+p.b
  ·have HF:Hid (ClR S p q0 (([]:List Sd).map Sd.key) (([]:List Ce).map Ce.key) 11):=Qaa (by unfold ClR;rw [if_neg (by rw [HP.out];simp),if_pos hc];exact ⟨rfl,rfl,rfl,rfl⟩)
   clear a1 a2 b1 b2 c1 c2 d1 d2 m0 m1 m2;go_wp2_with fail;refine (QaT 11 _).mono ?_;rintro e wz ⟨rfl,ae⟩;have R1:=QaA af ae;have aC:=Qaa (Qac aq ae);clear ae;obtain ⟨y0,y1,y2,y3,y4,y5,y6⟩:=Qd4 R1;obtain ⟨f0,f1,f2,f3,f4,f5,f6⟩:=fA7 R1;clear R1;go_wp2;refine bodyPost_ret (v:=.agg (QaI (.slice none 0 0) q0 (.slice none 0 0) 11)) (by simp [results,results29,go_sem,y0,y1,y2,y3,y4,y5,y6]) rfl ?_;have hC:=CpP.sets7 (v0:=.slice none 0 0) (v1:=.int .i64 0) (v2:=.int .i64 0) (v3:=.int .i64 0) (v4:=.int .i64 0) (v5:=.slice none 0 0) (v6:=.int .i64 11) (fun j q=>by cases q) (LvO.nil _ _) (QpO aC);exact ⟨none,0,0,q0,[],none,0,0,[],11,rfl,HF,PoB.none hC.r hC.o,hC.b⟩
  have HF:Hid (∀ (X:List Sd) (C:List Ce),X.map Sd.key=S.map (Qjv p.d)->Qck C->(C.map Ce.key).Perm (((QaN S).filter (isW p.d)).map Ce.key)->ClR S p ⟨p.a,p.b,p.c,p.d+1⟩ (X.map Sd.key) (C.map Ce.key) 0):=Qaa (fun X C h1 h2 h3=>by
   unfold ClR;rw [if_neg (by rw [HP.out];simp),if_neg hc];exact ⟨rfl,rfl,h1,C,h2,h3,rfl⟩)
  have bp:(p.d == 1000000000)=false:=by simpa using (by omega:¬ p.d=1000000000)
  clear a1 a2 b1 b2 c1 c2 d1 d2 m0 m1 m2;go_wp2_with fail;clear x0 x1 x2 x3 x4 bp bc bs;refine (Qgp p (HI.out.past aq)).mono ?_;rintro e w2 ⟨v,M,rfl,hC⟩;have bo:M.length=N:=by have h:=congrArg List.length hC.ky;rw [List.length_map,List.length_map] at h;rw [h];exact HI.out.n
  have bz:1<=N:=by have h:=(Qbp (Qb2 (QaE HP).1)).1;rw [List.length_map] at h;have:=HI.out.n;omega
  have bd:N<=12:=by have:=HQ.out.n;have:=HI.out.n;omega
  obtain ⟨gs,cs,rfl⟩:=Qjn hC.r (by omega);rw [bo] at hC ⊢;have a8:=Qaa hC.ky;have br:Hid (w1.heap.size<=w2.heap.size):=Qaa hC.b.size
  have am:Hid (SmC w1 ((w2.alloc (.cells (Qam (.slice (some ⟨gs,0,none⟩) N cs) p) 35)).alloc (.cells #[] 92)) w2.heap.size p (.slice (some ⟨gs,0,none⟩) N cs) M S 0 [] (.slice (some ⟨w2.heap.size+1,0,none⟩) 0 0) []):=by
   have aD:Below w2.heap.size w2 (w2.alloc (.cells (Qam (.slice (some ⟨gs,0,none⟩) N cs) p) 35)):=(ZZb _ _).alloc (ZZa _) _;have av:Below (w2.alloc (.cells (Qam (.slice (some ⟨gs,0,none⟩) N cs) p) 35)).heap.size (w2.alloc (.cells (Qam (.slice (some ⟨gs,0,none⟩) N cs) p) 35)) ((w2.alloc (.cells (Qam (.slice (some ⟨gs,0,none⟩) N cs) p) 35)).alloc (.cells #[] 92)):=(ZZb _ _).alloc (ZZa _) _;have mk:=OwnC.made (w2.alloc (.cells (Qam (.slice (some ⟨gs,0,none⟩) N cs) p) 35)) #[] rfl;rw [World.size_alloc] at mk;have lp:∀ j,QpU (.slice (some ⟨gs,0,none⟩) N cs) M j->j<w2.heap.size:=fun j q=>((PpB.of hC.r hC.o).hi j q).2;have zz:=hC.b.size;refine Qaa ⟨QaA (heap_alloc_new w2 (.cells (Qam (.slice (some ⟨gs,0,none⟩) N cs) p) 35)) av,fun j q e=>?_,(hC.r.past aD).past av,(hC.o.past aD).past av,mk.le (by omega),CesO.nil _ _,fun j q1 q2=>?_,rfl,.nil,by simp [QaN],(fun e=>by cases e),Qac (Qac hC.b aD) av⟩
   ·rcases q with q | q
    ·have:=lp j q;omega
    ·rcases q with q | ⟨c,hc,_⟩
     ·have q:w2.heap.size+1=j:=Option.some.inj q
      omega
     ·cases hc
   ·have:=lp j q1
    rcases q2 with q | ⟨c,hc,_⟩
    ·have q:w2.heap.size+1=j:=Option.some.inj q
     omega
    ·cases hc
  clear hC;go_upto_region 9 with fail;generalize (w2.alloc (.cells (Qam (.slice (some ⟨gs,0,none⟩) N cs) p) 35)).alloc (.cells #[] 92)=W3 at am ⊢;obtain ⟨bx,aG⟩:∃ b,w2.heap.size=b:=⟨_,rfl⟩;have bg:Hid (w1.heap.size<=bx):=Qaa (by rw [<- aG];exact br.out);rw [aG] at am ⊢;clear aG;generalize bx+1=gu0 at am ⊢;go_wp2
  go_loopw [4,5] (fun u i wr=>∃ (k gu nu cu:Nat) (X:List Sd) (C:List Ce),k<=N/\i=.int .i64 k/\u=.slice (some ⟨gu,0,none⟩) nu cu/\X.length=k/\Hid (SmC w1 wr bx p (.slice (some ⟨gs,0,none⟩) N cs) M S k X (.slice (some ⟨gu,0,none⟩) nu cu) C)) (fun u i wr=>N - (Go.RowKit.intOf i).toNat)
  case atStart=>exact ⟨0,_,_,_,[],[],ZZj _,rfl,rfl,rfl,am⟩
  case round=>
   clear am;obtain ⟨k,gu,nu,cu,X,C,hk,rfl,rfl,aM,HJ⟩:=hrel;by_cases bv:k<N
   ·have aA:(k:Int)<(N:Int):=by omega
    have r0:=QaO HJ.out.xb 0 rfl;obtain ⟨t,ht⟩:∃ t,M[k]?=some t:=⟨M[k]'(by omega),ZZe _⟩;obtain ⟨s,hs⟩:∃ s,S[k]?=some s:=⟨S[k]'(by have:=HI.out.n;omega),ZZe _⟩;have aR:=Qaa (Qr9 a8 ht hs);obtain ⟨bF,a4,aT,aS,bn,aL⟩:=HJ.out.sh HQ a8 ht aM;have bf:=Qaa ht;have aO:=Qaa hs;have aW:=Qaa a4;have be:=Qaa aT;have bk:=Qaa aS;have aQ:=Qaa aL;have bC:IntKind.i64.wrap ((k:Int)+1)=((k+1:Nat):Int):=by rw [show (k:Int)+1=((k+1:Nat):Int) by omega];exact ZZi _ ⟨by omega,by omega⟩
    clear ht hs a4 aT aS bn aL;go_upto_region 12 with fail;clear r0;have aa:Hid ((fun W=>Below wr.heap.size wr W) wr.drew):=(ZZb _ _).drew;refine Qao (fun W=>Below wr.heap.size wr W) 13 (by kernel_rfl) ?_;refine tkS 0 (.pointer (some ⟨bx,0,none⟩)) aa ?_;refine tkL 1 (.slice (some ⟨gs,0,none⟩) N cs) aa (fun W hW=>?_) ?_
    ·have q0:=QaO (QaA HJ.out.xb hW) 0 rfl
     clear hW;go_simp
    refine tkS 2 (.int .i64 k) aa ?_;simp only [sX];refine tkS 3 (.pointer (some ⟨gs,k*2,none⟩)) aa ?_;refine tkS 4 (.pointer (some ⟨gs,k*2+1,none⟩)) aa ?_;refine tkL 5 (.slice t.ao t.L.length t.cp) aa (fun W hW=>?_) ?_
    ·have q0:=Qer (HJ.out.past hW).r (HJ.out.past hW).o aQ
     clear hW;go_simp
    simp only [sX];refine tkS 6 (.pointer (some ⟨w.heap.size,4,none⟩)) aa ?_;refine tkL 7 (.int .i64 p.d) aa (fun W hW=>?_) ?_
    ·have q0:=QaO (QaA (QaA ac HJ.out.b) hW) 4 rfl
     clear hW;go_simp
    simp only [sX];refine oneK (i:=8) (by kernel_rfl) rfl (fun K0 hK0=>?_);go_simp;refine (Qnq p.d rfl (by omega) (fun c hc=>(aW.out c hc).2.1) be (Qa6 bk aa)).mono ?_;rintro e w4 ⟨vo,vr,A,rfl,aI,aJ,_,aY,ba,aN⟩;obtain ⟨ax,cx,rfl,_⟩:=aI.form;obtain ⟨ar,cr,rfl,_⟩:=aJ.form;have ad:Hid (Below wr.heap.size wr w4):=Qac aa aN;have aK:=Qaa (aI.le aa.out.size);have aV:=Qaa (aJ.le aa.out.size);have ay:=Qaa (aY.le aa.out.size);have ak:=Qaa ba;clear aI aJ aY ba aN;dsimp only;refine hK0.out _ _ (fun _=>ad.out) ?_;clear hK0 K0
    try simp only [sX]
    refine tkS 9 (.tuple #[.slice ax (A.filter (isW p.d)).length cx,.slice ar (A.filter (fun c=>!isW p.d c)).length cr]) ad ?_;refine tkS 10 (.slice ax (A.filter (isW p.d)).length cx) ad ?_;refine tkS 11 (.slice ar (A.filter (fun c=>!isW p.d c)).length cr) ad ?_;simp only [sX];refine oneK (i:=12) (by kernel_rfl) rfl (fun K0 hK0=>?_);go_simp;refine hK0.out _ _ (fun _=>ad.out) ?_;clear hK0 K0
    try simp only [sX]
    refine oneK (i:=13) (by kernel_rfl) rfl (fun K0 hK0=>?_);go_simp;refine hK0.out _ _ (fun h=>absurd rfl h) ?_;clear hK0 K0
    try simp only [sX]
    refine dnE ?_ _;have ab:=Qaa (HJ.out.past ad);have r0:=QaO ab.out.xb 0 rfl;have q1:=Qer ab.out.r ab.out.o aQ;obtain ⟨bu,aj⟩:=Qmd ab.out.r;have fz:=fzR (k*2+1) aj;clear aj;go_upto_region 14 with fail;clear r0 q1 fz;obtain ⟨mc,mo,ma,md⟩:=HJ.out.mg HQ aO aR ak;have g:=(grS (Qal w4 gs (k*2+1) (.slice ar (A.filter (fun c=>!isW p.d c)).length cr))).weak (T:=fun k=>k=gs) (fun k e=>by injection e with e;exact e.symm);have c5:=ab.out.c.keptS g (fun j q e=>ab.out.ap j (.inl (by rw [e];rfl)) (.inl q));have d5:=ab.out.d.keptS g (fun c hc j q e=>ab.out.ap j (.inl (by rw [e];rfl)) (.inr ⟨c,hc,q⟩));have bq:=(World.ownsRow.lt HJ.out.r gs rfl).2;have o5:=aK.out.keptS g (fun j q e=>by have:=(World.ownsRow.lt aK j q).1;omega);have a5:=ay.out.keptS g (fun c hc j q e=>by have:=((ay.out.o c hc).lt q).1;omega);have bb:C.length=nu:=QhG c5
    have au:∀ c∈A,AgOk c.g/\AgSm c.g/\c.s.size<=maxLen:=fun c hc=>by
     obtain ⟨d,hd,e1,e2,e3⟩:=Qku ak hc;rw [<- e2,<- e3];exact aW.out d hd
    have bA:A.length<=60:=by have h:=congrArg List.length ak;rw [List.length_map,List.length_map] at h;omega
    have bE:=List.length_filter_le (isW p.d) A;have aZ:Hid (ShI (w4.setCell ⟨gs,k*2+1,none⟩ (.slice ar (A.filter (fun c=>!isW p.d c)).length cr)) (some ⟨gu,0,none⟩) nu C):=Qaa ⟨bb,by omega,fun c hc=>(mo c hc).1,fun c hc=>(mo c hc).2.1,fun c hc=>(mo c hc).2.2,fun c hc=>(d5.o c hc).plgX,OwnC.at c5 d5.at⟩;have a9:Hid (ShI (w4.setCell ⟨gs,k*2+1,none⟩ (.slice ar (A.filter (fun c=>!isW p.d c)).length cr)) ax (A.filter (isW p.d)).length (A.filter (isW p.d))):=Qaa ⟨rfl,by omega,fun c hc=>(au c (List.mem_filter.1 hc).1).1,fun c hc=>(au c (List.mem_filter.1 hc).1).2.1,fun c hc=>(au c (List.mem_filter.1 hc).1).2.2,fun c hc=>(a5.o c (List.mem_filter.1 hc).1).plgX,OwnC.at o5 (a5.filt _).at⟩;have bh:=Qaa ma;have bi:=Qaa md;clear g c5 d5 o5 a5 au ma md mo bq;go_wp2_with fail;refine (Qf3 aZ a9 HJ.out.asc bh bi (by omega) (by omega)).mono ?_;rintro e w6 ⟨v1,R1,rfl,a6,aH,a3,ag,aX⟩;have HN:=Qaa (HJ.out.step aM bf aO aR ad aV ay ak a6 aH a3 ag aX);obtain ⟨g6,c6,rfl,_⟩:=aH.src ag;clear a6 aH a3 ag aX aZ a9 ab HJ ad aV ay ak aK;go_wp2;go_roundw
    case rel=>exact ⟨k+1,_,_,_,_,_,by omega,by first | rfl | go_num,rfl,by simp;omega,HN⟩
    case measure=>simp [zI];omega
   ·have aA:¬ (k:Int)<(N:Int):=by omega
    obtain rfl:k=N:=by omega
    have bm:M.drop k=[]:=List.drop_eq_nil_of_le (by omega);have aP:S.take k=S:=List.take_of_length_le (by have:=HI.out.n;omega);have aE:=HJ.out.kx;have aF:=HJ.out.pm;rw [aP] at aE aF;have bj:=Qaa (HF.out X C aE HJ.out.asc aF);have X1:=HJ.out.xb;obtain ⟨x0,x1,x2,x3,x4⟩:=QdF X1;have p4:=QaO (QaA ac HJ.out.b) 4 rfl;have fx:=fzR 4 X1;have bB:w1.heap.size<=bx:=bg.out;have bD:=az.out;have X5:=ZZl wr bx 4 _ _ (.int .i64 (p.d+1)) X1;have g5:=(grS (Qal wr bx 4 (.int .i64 (p.d+1)))).weak (T:=fun k=>k=bx) (fun k e=>by injection e with e;exact e.symm);have R1:=g5.row (QaA af HJ.out.b) (fun e=>by omega);have a7:=Qaa X5;have ah:=Qaa g5;have ai:=Qaa R1;clear aE aF X1 X5 g5 R1 aP;go_upto_region 16 with fail;clear x0 x1 x2 x3 x4 p4 fx;generalize hW5:wr.setCell ⟨bx,4,none⟩ (.int .i64 (p.d+1))=W5 at a7 ah ai ⊢;obtain ⟨x0,x1,x2,x3,x4⟩:=QdF (show W5.heap[bx]?=some (.cells (Qam (.slice (some ⟨gs,0,none⟩) k cs) ⟨p.a,p.b,p.c,p.d+1⟩) 35 (0,0)) by simpa using a7.out);have R1:=ai.out;obtain ⟨y0,y1,y2,y3,y4,y5,y6⟩:=Qd4 R1;obtain ⟨f0,f1,f2,f3,f4,f5,f6⟩:=fA7 R1;clear R1;go_wp2;refine bodyPost_ret (v:=.agg (QaI (.slice (some ⟨gs,0,none⟩) k cs) ⟨p.a,p.b,p.c,p.d+1⟩ (.slice (some ⟨gu,0,none⟩) nu cu) 0)) (by simp [results,results29,go_sem,y0,y1,y2,y3,y4,y5,y6]) rfl ?_;have hr:=HJ.out.r;have ho:=HJ.out.o;have nb:=HJ.out.nb;have ap:=HJ.out.ap;rw [bm,List.append_nil] at hr ho nb ap;have r5:=hr.keptS ah (fun j q e=>nb j (.inl (.inl q)) e);have o5:=ho.keptS ah (fun x hx j q e=>nb j (.inl (.inr ⟨x,hx,q⟩)) e);have c5:=HJ.out.c.keptS ah (fun j q e=>nb j (.inr (.inl q)) e);have d5:=HJ.out.d.keptS ah (fun c hc j q e=>nb j (.inr (.inr ⟨c,hc,q⟩)) e);have bw:=HJ.out.b.size;have b5:=ah.out.below (Qac aq HJ.out.b) (by omega) (fun k e=>by omega);have g7:=grown7 W5 (w.heap.size+1) (.slice (some ⟨gs,0,none⟩) k cs) (.int .i64 p.a) (.int .i64 p.b) (.int .i64 p.c) (.int .i64 (p.d+1)) (.slice (some ⟨gu,0,none⟩) nu cu) (.int .i64 0);have aU:LvO W5 (w.heap.size+1+1) X:=o5.le (by omega);have hC:=CpP.sets7 (w:=w) (S:=X) (v0:=.slice (some ⟨gs,0,none⟩) k cs) (v1:=.int .i64 p.a) (v2:=.int .i64 p.b) (v3:=.int .i64 p.c) (v4:=.int .i64 (p.d+1)) (v5:=.slice (some ⟨gu,0,none⟩) nu cu) (v6:=.int .i64 0) (fun j q=>by have:=(World.ownsRow.lt r5 j q).1;omega) aU ⟨r5.le (by omega),aU.le (by omega),rfl,b5⟩;have ru:=(c5.keptS g7 (fun k q e=>by have:=(World.ownsRow.lt c5 k q).1;omega)).le (by omega:w.heap.size<=w1.heap.size);have ou:=(d5.keptS g7 (fun c hc k q e=>by have:=((d5.o c hc).lt q).1;omega)).le (by omega:w.heap.size<=w1.heap.size);exact ⟨_,_,_,_,X,_,_,_,C,0,rfl,bj,⟨PpB.of hC.r hC.o,CsB.of ru ou,ap⟩,hC.b⟩
end Go.Proofs.YtdbaabbmcfnjbaaGreatDoor
