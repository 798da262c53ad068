/-
 Parts.
-/
import Derived.Test.YtioohanfodmddaaGreatDoorCWI
set_option maxRecDepth 10000
set_option maxHeartbeats 2000000
set_option linter.all false
namespace Go.Proofs.YtioohanfodmddaaGreatDoor
open Go.ChangeShapes Go.WideShapes Go.ChangeAt Go.RowKit Go.PlainAid Go.Lib Go.Maps Tryz
theorem mEd {p:Prop} (h:p:=by clear hc hb;go_enter func10,ntmps10;go_wp2;go_ret;exact ⟨0,rfl,by omega,rfl⟩):p:=h
variable {w w1 w1':World}
variable {ao:Option Addr}
variable {K ln:Nat}
section
theorem QqF {w':World} {B:Nat} (h:Qbi w K ao ln) (hb:Below K w w') (hw:K<=w.heap.size) (hK:K<=B):Qbi w' B ao ln:=by
 refine ⟨h.1,fun h0=>?_⟩;obtain ⟨b,aa,e,ab,hc⟩:=h.2 h0
 exact ⟨b,aa,e,by omega,fun i hi=>by
  obtain ⟨x,hx,h1,h2⟩:=hc i hi;refine ⟨x,?_,h1,h2⟩;rw [show w'.cell? ⟨b,aa+i,none⟩=w.cell? ⟨b,aa+i,none⟩ from ?_];exact hx;unfold World.cell?;rw [hb.block b ab]⟩
end
section
theorem Qob (g:Ag):QaI g g=true:=by simp [QaI,Qa8,Qbm]
theorem QgE:∀ L:List Ce,QbV L L=true
 | []=>rfl
 | c :: L=>by
  show (QeT c c && QbV L L)=true
  rw [QgE L,Bool.and_true];unfold QeT;rw [Qob];simp
theorem Qnn {L M:List Ce} (k:L.map Ce.key=M.map Ce.key) (l:M.length<=400):csB L M=true:=by
 rw [Qup k rfl];unfold csB;rw [QgE];simp [l]
end
theorem Qn5 {S:List Sd} {p:Pi} {n:Int} (hp:PcB 1 p):PcB 1 (Qf5 S p n):=by
 exact mC3
theorem Qg0 {cap:Nat} (hc:Qbi w w.heap.size ao ln) :
  Calls prog 4 #[.slice ao ln cap] w fun e w'=>∃ ax n cp p M,e=.returned (.agg (Qae (.slice ax n cp) p))/\OwnD w' w.heap.size (.slice ax n cp) M/\LvO w' w.heap.size M/\GdK 1 (M.map Sd.key)/\PcB 1 p/\Bw w w':=by
 have a0:Bw w (w.alloc (.cells (Qae (.slice none 0 0) q0) 25)):=bAA;have HC:=Qaa (QqF (B:=(w.alloc (.cells (Qae (.slice none 0 0) q0) 25)).heap.size) hc a0 (ZZa _) a0.size);have HR:=Qaa (ZZk w (.cells (Qae (.slice none 0 0) q0) 25));have ad:=Qaa a0;have HZ:Hid ((w.alloc (.cells (Qae (.slice none 0 0) q0) 25)).heap.size=w.heap.size+1):=Qaa oE;clear hc a0;go_enter func4,ntmps4;go_wp2_with fail;generalize w.alloc _=W0 at HC HR ad HZ ⊢;obtain ⟨K,hK⟩:∃ K,W0.heap.size=K:=⟨_,rfl⟩;rw [hK] at HC HZ;refine (Qlt (K:=K) _ _ _ _ hK HC).mono ?_;rintro e w1 ⟨rfl,ah⟩;have ac:=Qaa ah;clear ah;go_wp2_with fail;refine (Qpl HC ac).mono ?_;rintro e w2 ⟨ax,n,cp,p,M,rfl,ai,ab,r2,o2,gd,pc⟩;have ag:=Qaa gd;have aj:=Qaa pc
 have ae:Hid (w2.heap[w.heap.size]?=some (.cells (Qae (.slice none 0 0) q0) 25 (0,0))/\Bw w w2/\w.heap.size<K/\K<w2.heap.size/\OwnD w2 (K+1) (.slice ax n cp) M/\LvO w2 (K+1) M):=by
  have z0:=HZ.out;have z1:=Qcv ac;have z2:=ab.size;have b1:Below W0.heap.size W0 w1:=by rw [hK];exact ac.bel
  exact Qaa ⟨(ab.block _ oB (fun e=>by cases e;omega)).trans (Qag HR b1),(Qac ad b1).grown ab oB (fun k e=>by cases e;omega),by omega,by omega,r2.le oB,o2.le oB⟩
 have af:=Qaa ai;have am:=Qaa (Qc7 r2);clear ai ab r2 o2 gd pc ac HR ad HZ hK;go_wp2_with fail;refine (c_n HC af 25 oB).mono ?_;rintro e w3 ⟨v,rfl,v0,v1,_,_,hg⟩
 have aa:Hid (w3.heap[w.heap.size]?=some (.cells (Qae (.slice none 0 0) q0) 25 (0,0))/\Bw w w3/\w.heap.size<w3.heap.size/\OwnD w3 (K+1) (.slice ax n cp) M/\LvO w3 (K+1) M):=by
  obtain ⟨f1,f2,f3,f4,f5,f6⟩:=ae.out;have g:GrownS w2 w3 (fun k=>k=K):=(grS hg).weak (fun k e=>by injection e with e;exact e.symm);have hp:=PpB.of f5 f6;have:=hg.size;exact Qaa ⟨g.row f1 oB,f2.grown hg oB (fun k e=>by cases e;omega),by omega,f5.keptS g (fun k q e=>by have:=(hp.hi k (.inl q)).1;omega),f6.keptS g (fun x hx k q e=>by have:=(hp.hi k (.inr ⟨x,hx,q⟩)).1;omega)⟩
 clear ae af hg v0 v1;go_wp2_with fail;refine (QfJ p v (GdK.pp oB ag aa.2.2.2.1 aa.2.2.2.2)).mono ?_;rintro e w4 ⟨v4,M4,rfl,hC⟩;obtain ⟨a4,c4,rfl,_⟩:=hC.r.form;obtain ⟨q,hq⟩:∃ q,Qf5 M p v=q:=⟨_,rfl⟩;have ak:Hid (PcB 1 q):=Qaa (by rw [<- hq];exact Qn5 aj);rw [hq];have R4:w4.heap[w.heap.size]?=some (.cells (Qae (.slice none 0 0) q0) 25 (0,0)):=Qag aa.1 hC.b;have al:Hid (GdK 1 (M4.map Sd.key)):=Qaa (by rw [hC.ky];exact ag.out)
 have HF:Hid (∀ (v0 v1 v2 v3 v4:Value) (X:World),X=((((w4.setCell ⟨w.heap.size,0,none⟩ v0).setCell ⟨w.heap.size,1,none⟩ v1).setCell ⟨w.heap.size,2,none⟩ v2).setCell ⟨w.heap.size,3,none⟩ v3).setCell ⟨w.heap.size,4,none⟩ v4->OwnD X w.heap.size (.slice a4 M4.length c4) M4/\LvO X w.heap.size M4/\Bw w X):=by
  have z:=aa.2.2.1;have hb:=Qac aa.2.1 hC.b;have hz:=hC.b.size;refine Qaa (fun v0 v1 v2 v3 v4 X hX=>?_);have g:=Qpq w4 w.heap.size v0 v1 v2 v3 v4;rw [<- hX] at g;have hp:=PpB.of hC.r hC.o;exact ⟨(hC.r.keptS g (fun k q e=>by have:=(hp.hi k (.inl q)).1;omega)).le oB,(hC.o.keptS g (fun x hx k q e=>by have:=(hp.hi k (.inr ⟨x,hx,q⟩)).1;omega)).le oB,g.below hb oB (fun k e=>by omega)⟩
 clear hq hC aa;obtain ⟨y0,y1,y2,y3,y4⟩:=Qbf R4;obtain ⟨f0,f1,f2,f3,f4⟩:=fA5 R4;clear R4;go_wp2;refine bodyPost_ret (v:=.agg (Qae (.slice a4 M4.length c4) q)) (by simp [results,results4,go_sem,y0,y1,y2,y3,y4]) rfl ?_;obtain ⟨h1,h2,h3⟩:=HF.out _ _ _ _ _ _ rfl;exact ⟨a4,M4.length,c4,q,M4,rfl,h1,h2,al,ak,h3⟩
variable {c:Ce}
variable {v:Value}
variable {R:List Ce}
section
variable {S M:List Sd} {p q:Pi} {C:List Ce} {win:Int}
def rsS (win:Int) (S:List Sd):List Sd:=S.map (fun s=>{ s with L:=s.L.filter (fun c=>!isW win c) })
theorem QoY:(rsS win S).map Sd.key=S.map (Qe7 win):=by unfold rsS;rw [List.map_map];rfl
theorem Qt3:(rsS win S).map Sd.nm=S.map Sd.nm:=by unfold rsS;rw [List.map_map];rfl
theorem QkR:∀ S:List Sd,fcS (rsS win S)=(fcS S).filter (fun x=>!isW win x.2)
 | []=>rfl
 | s :: S=>by
  show fcS (_ :: rsS win S)=_
  rw [QiT,QiT,QkR S,List.filter_append,List.filter_map]
  rfl
theorem Qvh:QaK (rsS win S)=(QaK S).filter (fun c=>!isW win c):=by
 rw [<- Qjf,<- Qjf,QkR,List.filter_map]
 rfl
theorem notW (h:(!isW win c)=true):c.n≠win:=by
 unfold isW at h
 simpa using h
theorem Qry (hp:Qbq S p=true) (hc:¬ p.c<(p.d+1)*p.a+p.b):Qbq (rsS p.d S) ⟨p.a,p.b,p.c,p.d+1⟩=true:=by
 obtain ⟨hs,aa⟩:=QaP hp;obtain ⟨a1,a2,b1,b2,c1,c2,d1,d2⟩:=Qci hp;have hd:(p.d+1)*1<=(p.d+1)*p.a:=Int.mul_le_mul_of_nonneg_left a1 oB;unfold Qbq;rw [yB,yB];refine ⟨?_,?_,QgU ⟨?_,fun w=>?_,fun x hx=>?_⟩⟩
 ·unfold Qg2 inB
  simp only [yB,decide_eq_true_eq];omega
 ·unfold Qev
  rw [Qt3,QdV hs,Bool.true_and];refine List.all_eq_true.2 (fun t ht=>?_);obtain ⟨s,hm,rfl⟩:=List.mem_map.1 ht;have h:=QcU hs hm;unfold shB at h ⊢;rw [yB] at h ⊢;obtain ⟨z1,z2,z3⟩:=csR_iff.1 h.2;refine ⟨h.1,csR_iff.2 ⟨?_,fun c hc=>z2 c (List.mem_filter.1 hc).1,z3.sublist List.filter_sublist⟩⟩;have:=List.length_filter_le (fun c=>!isW p.d c) s.L
  show (s.L.filter (fun c=>!isW p.d c)).length<=60
  omega
 ·rw [QkR]
  have:=List.length_filter_le (fun x:ByteArray×Ce=>!isW p.d x.2) (fcS S);have:=aa.l;omega
 ·rw [QkR]
  exact Nat.le_trans (List.filter_sublist.countP_le) (aa.c w)
 ·rw [QkR] at hx
  obtain ⟨h1,h2⟩:=List.mem_filter.1 hx;obtain ⟨h3,h4⟩:=aa.p x h1;have:=notW h2;exact ⟨by show p.d+1<=x.2.n;omega,by rw [Qt3];exact h4⟩
structure ClG (S M:List Sd) (p q:Pi) (C:List Ce):Prop where
 r:Qbq S p=true
 t:¬ p.c<(p.d+1)*p.a+p.b
 qe:q=⟨p.a,p.b,p.c,p.d+1⟩
 ok:Qbq M q=true
 asc:AscC C
 w:∀ c∈C,c.n=p.d
 ri:csR C=true
 g:GdK 1 (M.map Sd.key)
 pm:(C.map Ce.key ++ (QaK M).map Ce.key).Perm ((QaK S).map Ce.key)
 l:(QaK S).length<=60
 cs:∀ c∈C,AgOk c.g/\AgSm c.g/\c.s.size<=maxLen
 nw:∀ k∈(QaK M).map Ce.key,k.1≠p.d
theorem Qhj {A B:List Ce} (h:(A.map Ce.key).Perm (B.map Ce.key)) (hc:c∈A):∃ d∈B,d.key=c.key:=by
 obtain ⟨d,hd,e⟩:=List.mem_map.1 (h.mem_iff.1 (List.mem_map_of_mem hc));exact ⟨d,hd,e⟩
theorem QtI (hp:Qbq S p=true) (hc:c∈QaK S):cRi c=true:=by
 obtain ⟨s,hs,aa⟩:=Qbt hc;have h:=QcU (QaP hp).1 hs;unfold shB at h;exact (csR_iff.1 (Bool.and_eq_true_iff.1 h).2).2.1 c aa
theorem ClR.cl (g:GdK 1 (S.map Sd.key)) (h:ClR S p q (M.map Sd.key) (C.map Ce.key) 0):ClG S M p q C:=by
 unfold ClR at h
 split at h
 ·exact absurd h.1 oF
 rename_i c1
 split at h
 ·exact absurd h.1 oF
 rename_i c2;have hp:Qbq S p=true:=by simpa using c1
 obtain ⟨_,h2,h3,D,hD,ab,hk⟩:=h;have ek:M.map Sd.key=(rsS p.d S).map Sd.key:=by rw [QoY];exact h3
 have aa:(QaK S).length<=60:=by rw [<- Qjf,yA];exact (QaP hp).2.l
 have ac:AscC C:=Qek hk hD;have pk:(C.map Ce.key).Perm (((QaK S).filter (isW p.d)).map Ce.key):=by rw [hk];exact ab
 have am:(QaK M).map Ce.key=((QaK S).filter (fun c=>!isW p.d c)).map Ce.key:=by rw [QcE ek,Qvh]
 have hl:C.length<=60:=by
  have h1:=pk.length_eq;rw [yA,yA] at h1;have:=List.length_filter_le (isW p.d) (QaK S);omega
 refine ⟨hp,c2,h2,?_,ac,fun c hc=>?_,csR_iff.2 ⟨hl,fun c hc=>?_,ac⟩,?_,?_,aa,fun c hc=>?_,fun k hk=>?_⟩
 ·rw [Qjv ek,h2];exact Qry hp c2
 ·obtain ⟨d,hd,e⟩:=Qhj pk hc
  have:=(List.mem_filter.1 hd).2;unfold isW at this;rw [<- (QnG e).1]
  simpa using this
 ·obtain ⟨d,hd,e⟩:=Qhj pk hc
  rw [<- QiB e];exact QtI hp (List.mem_filter.1 hd).1
 ·rw [ek,QoY]
  refine ⟨by have:=g.1;simpa using this,fun x hx=>?_⟩;obtain ⟨s,hs,rfl⟩:=List.mem_map.1 hx;obtain ⟨g1,g2,g3⟩:=g.sh hs;refine ⟨g1,?_,fun k hk=>?_⟩
  ·have:=List.length_filter_le (fun c=>!isW p.d c) s.L
   show (((s.L.filter (fun c=>!isW p.d c)).map Ce.key).length:Int)<=300+1
   rw [yA];omega
  ·obtain ⟨d,hd,rfl⟩:=List.mem_map.1 hk
   exact g3 d (List.mem_filter.1 hd).1
 ·rw [am]
  refine (List.Perm.append_right _ pk).trans ?_;rw [<- List.map_append];exact (List.filter_append_perm (isW p.d) (QaK S)).map _
 ·obtain ⟨d,hd,e⟩:=Qhj pk hc
  obtain ⟨s,hs,ad⟩:=Qbt (List.mem_filter.1 hd).1;have h:=(g.sh hs).2.2 d ad;obtain ⟨_,e2,e3⟩:=QnG e;rw [<- e2,<- e3];exact h
 ·rw [am] at hk
  obtain ⟨d,hd,rfl⟩:=List.mem_map.1 hk;exact notW (List.mem_filter.1 hd).2
theorem ClG.all {w2 w2':World} {v2:Value} {R2 X:List Ce} (h:ClG S M p q C) (hR:PcA w1 w1' M q v R) (k:PcA w2 w2' S p v2 R2) (m:MgD C R X):X.map Ce.key=R2.map Ce.key/\R2.length<=60:=by
 obtain ⟨a1,p1⟩:=hR.y h.ok;obtain ⟨a2,p2⟩:=k.y h.r;have hl:=p2.length_eq;rw [yA,yA] at hl;have:=h.l;refine ⟨QiO m.asc a2 (m.pm.trans ?_),by omega⟩;rw [List.map_append];exact (List.Perm.append_left _ p1).trans (h.pm.trans p2.symm)
theorem ClG.dj (h:ClG S M p q C) (hR:PcA w1 w1' M q v R):(∀ c∈R,¬ Qoc C c.n c.s)/\csR R=true/\∀ c∈R,AgOk c.g/\AgSm c.g/\c.s.size<=maxLen:=by
 obtain ⟨a1,p1⟩:=hR.y h.ok;have key:∀ c∈R,∃ d∈QaK M,d.key=c.key:=fun c hc=>Qhj p1 hc;have hl:=p1.length_eq;rw [yA,yA] at hl;have h2:=h.pm.length_eq;rw [List.length_append,yA,yA,yA] at h2;have:=h.l;refine ⟨fun c hc ⟨d,hd,e1,_⟩=>?_,csR_iff.2 ⟨by omega,fun c hc=>?_,a1⟩,fun c hc=>?_⟩
 ·obtain ⟨x,hx,e⟩:=key c hc
  have h3:=h.nw x.key (List.mem_map_of_mem hx);apply h3
  show x.n=p.d
  rw [(QnG e).1,<- e1];exact h.w d hd
 ·obtain ⟨x,hx,e⟩:=key c hc
  rw [<- QiB e];exact QtI h.ok hx
 ·obtain ⟨x,hx,e⟩:=key c hc
  obtain ⟨s,hs,aa⟩:=Qbt hx;have h3:=(h.g.sh hs).2.2 x aa;obtain ⟨_,e2,e3⟩:=QnG e;rw [<- e2,<- e3];exact h3
end
theorem QgX {bo:Option Addr} {N ca cb:Nat} {a b:List Ce} (hI:ShI w ao N a) (hJ:ShI w bo K b) (ra:csR a=true) (rb:csR b=true) (hdj:∀ c∈b,¬ Qoc a c.n c.s) (hs:N+K<=60) :
  Calls prog 12 #[.slice ao N ca,.slice bo K cb] w fun e w'=>∃ g R c,e=.returned (.slice g R.length c)/\MgD a b R/\OwnC w' w.heap.size (.slice g R.length c) R/\CesO w' w.heap.size R/\R.length<=60/\Bw w w':=by
 have h1:¬ (400:Int)<(N:Int):=oB
 have h2:¬ (400:Int)<(K:Int):=oB
 have HI:=Qaa hI;have HJ:=Qaa hJ;have HA:=Qaa (csR_iff.1 ra).2.2;have HB:=Qaa (csR_iff.1 rb).2.2;have af:=Qaa hdj;have ah:=Qaa ra;have ai:=Qaa rb;clear hI hJ ra rb hdj;go_enter func12,ntmps12;go_wp2_with fail;refine (Qcz HI.hN HI.lN HI.ok HI.sm HI.ss HI.mem).mono ?_;rintro e w1 ⟨rfl,ae⟩;rw [ah.out];have ab:=Qaa ae;clear ae;go_wp2_with fail;refine (Qcz HJ.hN HJ.lN HJ.ok HJ.sm HJ.ss (QaL HJ.mem ab)).mono ?_;rintro e w2 ⟨rfl,ac⟩;rw [ai.out];have aa:=Qaa (Qac ab ac);clear ac ab;go_wp2_with fail;refine (Qer (HI.past aa) (HJ.past aa) HA HB af oB oB).mono ?_;rintro e w3 ⟨v,R,rfl,hm,hr,ho,ag,ad⟩;obtain ⟨g,c,rfl,_⟩:=hr.form
 have hl:R.length<=60:=by
  have h:=hm.pm.length_eq;rw [yA,yA,List.length_append,HI.hN,HJ.hN] at h;omega
 have aj:¬ (60:Int)<(R.length:Int):=oB
 have HF:Hid (MgD a b R/\OwnC w3 w.heap.size (.slice g R.length c) R/\CesO w3 w.heap.size R/\R.length<=60/\Bw w w3):=Qaa ⟨hm,hr.le aa.size,ho.le aa.size,hl,Qac aa ad⟩;clear hm hr ho ag ad hl;go_wp2;go_ret;exact ⟨g,R,c,rfl,HF⟩
theorem QuM (ao:Option Addr) (ln cap:Nat) (m:Int) (h1:1<=m) (h9:m<=2000000000) (w w0:World) (hc:Qbi w0 w0.heap.size ao ln) (hb:Bw w0 w) :
  Calls prog 10 #[.slice ao ln cap,.int .i64 0,.int .i64 m] w fun e w'=>∃ r:Nat,e=.returned (.int .i64 r)/\(r:Int)<m/\w'=w:=by
 have ag:=hc.1;by_cases hm:1<m
 ·have af:¬ m<=1:=by omega
  rcases Nat.eq_zero_or_pos ln with h0 | h0
  ·subst h0
   exact mEd
  ·obtain ⟨b,ac,rfl,ab,aa⟩:=hc.2 h0
   have er:Int.tmod 0 (ln:Int)=0:=Int.zero_tmod _;obtain ⟨x,hx,x0,x1⟩:=aa 0 h0;have t0:0<=Int.tmod x m:=Int.tmod_nonneg _ x0;have t1:Int.tmod x m<m:=Int.tmod_lt_of_pos _ oB;have ew:IntKind.i64.wrap x=x:=ZZi _ ⟨by omega,by omega⟩;have ad:w.cell? ⟨b,ac,none⟩=some (.int .u8 x):=by rw [hb.cell (by exact ab)];exact hx
   have ae:((ln:Int) == 0)=false:=ZZf.2 oB;have ah:((m:Int) == 0)=false:=ZZf.2 oB;have aj:(0:Int)<(ln:Int):=oB
   obtain ⟨q,hq⟩:∃ q:Nat,Int.tmod x m=q:=⟨(Int.tmod x m).toNat,(Int.toNat_of_nonneg t0).symm⟩;rw [hq] at t0 t1;have wq:IntKind.i64.wrap (q:Int)=(q:Int):=ZZi _ ⟨by omega,by omega⟩;have ai:wrap64 (q:Int)=(q:Int):=w64_id oO;have HT:=Qaa t1;clear hc hb aa hx t1;go_enter func10,ntmps10;go_wp2;go_ret;exact ⟨q,rfl,HT,rfl⟩
 ·obtain rfl:m=1:=by omega
  exact mEd
end Go.Proofs.YtioohanfodmddaaGreatDoor
