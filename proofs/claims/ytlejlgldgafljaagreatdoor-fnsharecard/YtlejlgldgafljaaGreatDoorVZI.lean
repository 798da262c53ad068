/-
 Parts.
-/
import Derived.Test.YtlejlgldgafljaaGreatDoorVZF
import Derived.Test.YtlejlgldgafljaaGreatDoorVZD
set_option maxRecDepth 10000
set_option maxHeartbeats 16000000
set_option linter.all false
namespace Go.Proofs.YtlejlgldgafljaaGreatDoor
open Go.ChangeShapes Go.WideShapes Go.ChangeAt Go.RowKit Go.PlainAid Go.Lib Go.Maps Tryz
theorem Qa1 (cd:Int) (w:World):Calls prog 43 #[.int .i64 cd] w fun e w'=>e=.returned (.agg (Qap (.slice none 0 0) q0 (.slice none 0 0) cd))/\Bw w w':=by
 have HB:Hid (∀ o1,Bw w (w.alloc o1)):=fun o1=>bA;go_enter func43,ntmps43;go_wp2;exact bodyPost_ret (v:=.agg (Qap (.slice none 0 0) q0 (.slice none 0 0) cd)) (by simp [results,results43,go_sem]) rfl ⟨rfl,HB.out _⟩
variable {w:World}
variable {K:List ByteArray}
theorem Qnc {an:Option Addr} {cn:Nat} (u:ByteArray) (hl:K.length<=100000) (hA:Qau w an K) :
  Calls prog 45 #[.slice an K.length cn,.string u] w fun e w'=>e=.returned (.bool (inK K u))/\w'=w:=by
 have HA:=Qaa hA;obtain ⟨B,hB⟩:∃ B,inK K u=B:=⟨_,rfl⟩;rw [hB];have HB:=Qaa hB;clear hA hB;go_enter func45,ntmps45;go_wp2
 go_loopw [5] (fun i wr=>∃ (k:Nat),k<=K.length/\i=.int .i64 k/\Hid (u ∉ K.take k)/\wr=w) (fun i wr=>K.length - (Go.RowKit.intOf i).toNat)
 case atStart=>exact ⟨0,Nat.zero_le _,rfl,Qaa (by simp),rfl⟩
 case round=>
  obtain ⟨k,hk,rfl,HU,ab⟩:=hrel;subst ab;by_cases ac:k<K.length
  ·have aa:(k:Int)<(K.length:Int):=by omega
   obtain ⟨x,hx⟩:∃ x,K[k]?=some x:=⟨K[k],ZZe ac⟩;obtain ⟨b,ad,e,hc⟩:=HA.out (by omega);subst e;have x0:=hc k x hx
   cases q:(x.toList == u.toList) with
   | true=>
    obtain rfl:B=true:=by rw [<- HB.out];exact Qdl (by rw [<- QfC q];exact List.mem_of_getElem? hx)
    clear hc hx;go_wp2;go_ret;exact ⟨rfl,rfl⟩
   | false=>
    have HF:Hid (u ∉ K.take (k+1)):=by
     rw [List.take_add_one,hx];refine Qaa (fun h=>?_);rcases List.mem_append.1 h with h | h
     ·exact HU.out h
     ·have e:u=x:=by simpa using h
      rw [e] at q;simp at q
    clear hc hx;go_wp2;go_roundw
    case rel=>exact ⟨k+1,by omega,by first | rfl | go_num,HF,by first | rfl | trivial⟩
    case measure=>simp [zI];omega
  ·have aa:¬ (k:Int)<(K.length:Int):=by omega
   obtain rfl:B=false:=by
    rw [<- HB.out];have h:=HU.out;rw [List.take_of_length_le (by omega)] at h;exact QqR h
   go_wp2;go_ret;exact ⟨rfl,rfl⟩
variable {ao:Option Addr}
theorem QgO {B n cp:Nat} (h:OwnT w B (.slice ao n cp) K):n<=cp/\cp<=maxLen/\(ao=none->cp=0)/\Qau w ao K/\K.length=n:=by
 rcases h.2 with ⟨e,q⟩ | ⟨g,aa,ab,e,q1,q2,q3,q4,q5⟩
 ·injection e with e1 e2 e3
  exact ⟨by omega,by unfold maxLen;omega,fun _=>e3,fun h0=>by omega,by omega⟩
 ·injection e with e1 e2 e3
  subst e1;subst e2;subst e3;exact ⟨q3,q4,(fun e=>by cases e),QiG h,rfl⟩
variable {S:List Sd}
variable {p:Pi}
theorem QsI (h:Qbi S p=true):∀ s∈S,∀ c∈s.L,c.s.size<=100:=fun s hs c hc=>(Qms ((QgI (QdA (Qay h).1 hs)).2.1 c hc)).2
variable {mm:ByteArray}
variable {c7 cd:Int}
variable {b7 b8:Bool}
theorem MbA.ill {wr:World} (hR:MbR S p mm c7 b7 b8 K q0 (([]:List Sd).map Sd.key) cd) (hb:Bw w wr):MbA w S p mm c7 b7 b8 K (.returned (.agg (Qap (.slice none 0 0) q0 (.slice none 0 0) cd))) (((((((wr.setCell ⟨w.heap.size+1,0,none⟩ (.slice none 0 0)).setCell ⟨w.heap.size+1,1,none⟩ (.int .i64 0)).setCell ⟨w.heap.size+1,2,none⟩ (.int .i64 0)).setCell ⟨w.heap.size+1,3,none⟩ (.int .i64 0)).setCell ⟨w.heap.size+1,4,none⟩ (.int .i64 0)).setCell ⟨w.heap.size+1,5,none⟩ (.slice none 0 0)).setCell ⟨w.heap.size+1,6,none⟩ (.int .i64 cd)):=by
 have hC:=CpP.sets7 (v0:=.slice none 0 0) (v1:=.int .i64 0) (v2:=.int .i64 0) (v3:=.int .i64 0) (v4:=.int .i64 0) (v5:=.slice none 0 0) (v6:=.int .i64 cd) (fun j q=>by cases q) (LvO.nil _ _) (QkQ hb);exact ⟨none,0,0,q0,[],cd,rfl,hR,hC.r,hC.o,hC.b⟩
variable {N ca:Nat}
theorem Qb8 (p:Pi) (mm:ByteArray) (hzm:mm.size<=maxLen) (hI:PpI w ao N S) :
  Calls prog 13 #[.agg (Qad (.slice ao N ca) p),.string mm] w fun e w'=>MbA w S p mm 7 (inK (S.map Sd.nm) mm) (decide (12<=S.length)) (QbL (S.map Sd.nm) mm) e w':=by
 have HI:=Qaa hI;have a1:∀ (X:World) o,Bw X (X.alloc o):=fun X o=>bA;have k0:=ZZk w (.cells (Qad (.slice ao N ca) p) 25);have k1:=ZZk (w.alloc (.cells (Qad (.slice ao N ca) p) 25)) (.cells (Qap (.slice none 0 0) q0 (.slice none 0 0) 0) 37);simp only [World.size_alloc] at k1;have av:=Qaa (Qaf k0 (a1 _ (.cells (Qap (.slice none 0 0) q0 (.slice none 0 0) 0) 37)));have ai:=Qaa k1;have ar:=Qaa (Qac (a1 w (.cells (Qad (.slice ao N ca) p) 25)) (a1 _ (.cells (Qap (.slice none 0 0) q0 (.slice none 0 0) 0) 37)));clear hI a1 k0 k1;go_enter func13,ntmps13;go_upto_region 1 with fail;generalize (w.alloc _).alloc _=W0 at av ai ar ⊢;have aN:w.heap.size+1+1<=W0.heap.size:=(ZZc.1 ai).1;have a2:=Qaa aN;clear aN;by_cases ae:20000<mm.size
 ·have ba:decide ((20000:Int)<(mm.size:Int))=true:=ZZh (by omega)
  have a0:(20000:Int)<(mm.size:Int):=by omega
  have ab:mfC S p mm=2:=by unfold mfC;rw [if_pos ae]
  have ac:Hid (MbR S p mm 7 (inK (S.map Sd.nm) mm) (decide (12<=S.length)) (QbL (S.map Sd.nm) mm) q0 (([]:List Sd).map Sd.key) 2):=Qaa (by unfold MbR;rw [ab,if_pos (by decide)];exact ⟨rfl,rfl,rfl⟩);clear ab;go_wp2_with fail;refine (Qa1 2 _).mono ?_;rintro e wz ⟨rfl,aa⟩;have HF:=Qaa (MbA.ill (Qaa ac).out (Qac ar aa));have R1:=Qaf ai aa;obtain ⟨y0,y1,y2,y3,y4,y5,y6⟩:=Qbv R1;obtain ⟨f0,f1,f2,f3,f4,f5,f6⟩:=fA7 R1;clear R1 aa;go_wp2;exact bodyPost_ret (v:=.agg (Qap (.slice none 0 0) q0 (.slice none 0 0) 2)) (by simp [results,results13,go_sem,y0,y1,y2,y3,y4,y5,y6]) rfl HF
 have a0:¬ (20000:Int)<(mm.size:Int):=by omega
 obtain ⟨x0,x1,x2,x3,x4⟩:=Qa2 av;go_wp2_with fail;clear x0 x1 x2 x3 x4;refine (Qa7 p HI.n HI.sm HI.ok (QaF HI.at' ar)).mono ?_;rintro e w1 ⟨rfl,am⟩;have ag:=Qaa (Qaf av am);have ad:=Qaa (Qaf ai am);have aw:=Qaa (Qac ar am);have aA:=Qaa (Nat.le_trans a2 am.size);clear am av ai
 cases hp:Qbi S p with
 | false=>
  have ab:mfC S p mm=1:=by unfold mfC;rw [if_neg ae,if_pos (.inl hp)]
  have ac:Hid (MbR S p mm 7 (inK (S.map Sd.nm) mm) (decide (12<=S.length)) (QbL (S.map Sd.nm) mm) q0 (([]:List Sd).map Sd.key) 1):=Qaa (by unfold MbR;rw [ab,if_pos (by decide)];exact ⟨rfl,rfl,rfl⟩);clear ab hp;go_wp2_with fail;refine (Qa1 1 _).mono ?_;rintro e wz ⟨rfl,aa⟩;have HF:=Qaa (MbA.ill (Qaa ac).out (Qac aw aa));have R1:=Qaf ad aa;obtain ⟨y0,y1,y2,y3,y4,y5,y6⟩:=Qbv R1;obtain ⟨f0,f1,f2,f3,f4,f5,f6⟩:=fA7 R1;clear R1 aa;go_wp2;exact bodyPost_ret (v:=.agg (Qap (.slice none 0 0) q0 (.slice none 0 0) 1)) (by simp [results,results13,go_sem,y0,y1,y2,y3,y4,y5,y6]) rfl HF
 | true=>
  have HP:=Qaa hp;clear hp;go_wp2_with fail;refine (QaH mm w1 hzm).mono ?_;rintro e w2 ⟨rfl,rfl⟩
  cases hn:QaB mm with
  | false=>
   have ab:mfC S p mm=1:=by unfold mfC;rw [if_neg ae,if_pos (.inr hn)]
   have ac:Hid (MbR S p mm 7 (inK (S.map Sd.nm) mm) (decide (12<=S.length)) (QbL (S.map Sd.nm) mm) q0 (([]:List Sd).map Sd.key) 1):=Qaa (by unfold MbR;rw [ab,if_pos (by decide)];exact ⟨rfl,rfl,rfl⟩);clear ab hn;go_wp2_with fail;refine (Qa1 1 _).mono ?_;rintro e wz ⟨rfl,aa⟩;have HF:=Qaa (MbA.ill (Qaa ac).out (Qac aw aa));have R1:=Qaf ad aa;obtain ⟨y0,y1,y2,y3,y4,y5,y6⟩:=Qbv R1;obtain ⟨f0,f1,f2,f3,f4,f5,f6⟩:=fA7 R1;clear R1 aa;go_wp2;exact bodyPost_ret (v:=.agg (Qap (.slice none 0 0) q0 (.slice none 0 0) 1)) (by simp [results,results13,go_sem,y0,y1,y2,y3,y4,y5,y6]) rfl HF
  | true=>
   have ab:mfC S p mm=0:=by unfold mfC;rw [if_neg ae,if_neg (by rw [HP.out,hn];simp)]
   have az:=Qaa ab;have a7:=Qaa hn;have HQ:=Qaa (HI.qs HP);have bb:=HQ.n;clear hn ab;obtain ⟨x0,x1,x2,x3,x4⟩:=Qa2 ag;go_wp2_with fail;clear x0 x1 x2 x3 x4;refine (Qb4 p HI.n (by have:=HI.sm.n;have:=HI.n;omega) (QaF HI.at' aw)).mono ?_;rintro e w3 ⟨bn,cn,rfl,aW,al⟩;obtain ⟨aG,aE,aF,aS,aT⟩:=QgO aW;have ah:(S.map Sd.nm).length=N:=aT;have bc:S.length=N:=by rw [yA] at ah;exact ah
   have aK:=Qaa (Qaf ag al);have af:=Qaa (Qaf ad al);have ax:=Qaa (Qac aw al);have aU:=Qaa aS;have ap:w.heap.size+1+1<=w3.heap.size:=Nat.le_trans aA al.size;have aC:=Qaa ap;clear aW al ag ad aS aT ap;go_wp2_with fail;have HH:=Qaa (Qnc (w:=w3) (an:=bn) (cn:=cn) (K:=S.map Sd.nm) mm (by rw [yA];omega) aU);rw [ah] at HH;refine HH.mono ?_;rintro e w4 ⟨rfl,aY⟩;rw [aY];clear aY w4;clear HH;have ak:Qag (S.map Sd.nm)=true:=Qbs (Qay HP).1;have aI:=Qaa ak;clear ak
   cases hk:inK (S.map Sd.nm) mm with
   | true=>
    have ac:Hid (MbR S p mm 7 (inK (S.map Sd.nm) mm) (decide (12<=S.length)) (QbL (S.map Sd.nm) mm) q0 (([]:List Sd).map Sd.key) 7):=Qaa (by unfold MbR;rw [az.out,if_neg (by decide),if_pos hk];exact ⟨rfl,rfl,rfl⟩);clear hk;go_wp2_with fail;refine (Qa1 7 _).mono ?_;rintro e wz ⟨rfl,aa⟩;have HF:=Qaa (MbA.ill (Qaa ac).out (Qac ax aa));have R1:=Qaf af aa;obtain ⟨y0,y1,y2,y3,y4,y5,y6⟩:=Qbv R1;obtain ⟨f0,f1,f2,f3,f4,f5,f6⟩:=fA7 R1;clear R1 aa;go_wp2;exact bodyPost_ret (v:=.agg (Qap (.slice none 0 0) q0 (.slice none 0 0) 7)) (by simp [results,results13,go_sem,y0,y1,y2,y3,y4,y5,y6]) rfl HF
   | false=>
    by_cases h8:12<=N
    ·have d8:decide ((12:Int)<=(N:Int))=true:=ZZh (by omega)
     have a8:(12:Int)<=(N:Int):=by omega
     have ac:Hid (MbR S p mm 7 (inK (S.map Sd.nm) mm) (decide (12<=S.length)) (QbL (S.map Sd.nm) mm) q0 (([]:List Sd).map Sd.key) 8):=Qaa (by unfold MbR;rw [az.out,if_neg (by decide),if_neg (by rw [hk];simp),if_pos (decide_eq_true (by omega))];exact ⟨rfl,rfl,rfl⟩);clear hk;go_wp2_with fail;refine (Qa1 8 _).mono ?_;rintro e wz ⟨rfl,aa⟩;have HF:=Qaa (MbA.ill (Qaa ac).out (Qac ax aa));have R1:=Qaf af aa;obtain ⟨y0,y1,y2,y3,y4,y5,y6⟩:=Qbv R1;obtain ⟨f0,f1,f2,f3,f4,f5,f6⟩:=fA7 R1;clear R1 aa;go_wp2;exact bodyPost_ret (v:=.agg (Qap (.slice none 0 0) q0 (.slice none 0 0) 8)) (by simp [results,results13,go_sem,y0,y1,y2,y3,y4,y5,y6]) rfl HF
    ·have a8:¬ (12:Int)<=(N:Int):=by omega
     have aP:Hid (decide (12<=S.length)=false):=Qaa (ZZg (by omega));have aR:mm ∉ S.map Sd.nm:=fun h=>by rw [Qdl h] at hk;cases hk
     have aL:=Qhi aI aR (by rw [ah];omega) a7;have a3:=Qaa aL;have aJ:=Qaa hk;have ac:Hid (∀ (X:List Sd) (L:List Ce),AscC L->(L.map Ce.key).Perm ((QaL S).map Ce.key)->ShrL (QbL (S.map Sd.nm) mm) L X->MbR S p mm 7 (inK (S.map Sd.nm) mm) (decide (12<=S.length)) (QbL (S.map Sd.nm) mm) p (X.map Sd.key) 0):=fun X L h1 h2 h3=>by unfold MbR;rw [az.out,if_neg (by decide),if_neg (by rw [aJ.out];simp),if_neg (by simp;omega)];exact ⟨rfl,rfl,L,h1,h2,h3.keys⟩
     clear hk aR aL;go_upto_region 10 with fail;have aj:Hid ((fun W=>Bw w3 W) w3.drew):=(ZZb _ _).drew;refine Qal (fun W=>Bw w3 W) 6 (by kernel_rfl) ?_;refine tkL 0 (.agg (Qad (.slice ao N ca) p)) aj (fun W hW=>?_) ?_
     ·obtain ⟨x0,x1,x2,x3,x4⟩:=Qa2 (Qaf aK hW)
      clear hW;go_simp
     refine tkS 1 (.slice bn N cn) aj ?_;refine tkS 2 (.string mm) aj ?_;simp only [sX];refine onE 3 fun K hK=>?_;go_simp;refine (QhY mm ah (by omega) aG aE aF (QaA aU aj)).mono ?_;rintro e w5 ⟨v5,rfl,aD,aO⟩;obtain ⟨a5,c5,rfl⟩:=Qcj aD;have au:Hid (Bw w3 w5):=Qac aj aO;have aZ:=Qaa (QiG aD);clear aO aD;dsimp only;refine gK hK au.out ?_
     try simp only [sX]
     refine onE 4 fun K hK=>?_;go_simp;refine (QhQ p (HI.past (Qac ax au)) HQ (QsI HP) a3 aZ).mono ?_;rintro e w6 ⟨v6,X,L,rfl,aQ,aM,aX,aq,aB,aV⟩;obtain ⟨a6,c6,rfl,_⟩:=aq.form;have ay:Hid (Bw w3 w6):=Qac au aV;have HF:=Qaa (ac.out X L aQ aM aX);have z5:w.heap.size+1+1<=w5.heap.size:=Nat.le_trans aC au.size;have a4:Hid (LvO w6 (w.heap.size+1+1) X):=Qaa (aB.le z5);have aH:Hid (∀ j,(Value.slice a6 X.length c6).ownBlock=some j->w.heap.size+1+1<=j):=fun j q=>Nat.le_trans z5 (World.ownsRow.lt aq j q).1;have a9:Hid (CpP w w6 X (.slice a6 X.length c6) X):=Qaa ⟨aq.le (by omega),aB.le (by omega),rfl,Qac ax ay⟩;clear aQ aM aX aq aB aV;dsimp only;refine gK hK ay.out ?_
     try simp only [sX]
     refine tkS 5 (.agg (Qap (.slice a6 X.length c6) p (.slice none 0 0) 0)) ay ?_;simp only [sX];have R1:=Qaf af ay;obtain ⟨y0,y1,y2,y3,y4,y5,y6⟩:=Qbv R1;obtain ⟨f0,f1,f2,f3,f4,f5,f6⟩:=fA7 R1;clear R1;refine onE 6 fun K hK=>?_;go_simp;refine hK.out _ _ (fun h=>absurd rfl h) ?_
     try simp only [sX]
     refine dnE ?_ _;go_wp2;refine bodyPost_ret (v:=.agg (Qap (.slice a6 X.length c6) p (.slice none 0 0) 0)) (by simp [results,results13,go_sem,y0,y1,y2,y3,y4,y5,y6]) rfl ?_;have hC:=CpP.sets7 (v0:=.slice a6 X.length c6) (v1:=.int .i64 p.a) (v2:=.int .i64 p.b) (v3:=.int .i64 p.c) (v4:=.int .i64 p.d) (v5:=.slice none 0 0) (v6:=.int .i64 0) aH a4 a9;have hF:=HF.out;rw [aJ.out,aP.out] at hF;exact ⟨a6,_,c6,p,X,0,rfl,by first | exact hF | exact HF.out | (have h:=HF.out;rw [aP.out] at h;exact h) | (have h:=HF.out;rw [aJ.out] at h;exact h),hC.r,hC.o,hC.b⟩
theorem Qiq (p:Pi) (mm:ByteArray) (hzm:mm.size<=maxLen) (hI:PpI w ao N S) :
  Calls prog 19 #[.agg (Qad (.slice ao N ca) p),.string mm] w fun e w'=>MbA w S p mm 6 (!inK (S.map Sd.nm) mm) (decide (S.length=1)) (QaU (S.map Sd.nm) mm) e w':=by
 have HI:=Qaa hI;have a1:∀ (X:World) o,Bw X (X.alloc o):=fun X o=>bA;have k0:=ZZk w (.cells (Qad (.slice ao N ca) p) 25);have k1:=ZZk (w.alloc (.cells (Qad (.slice ao N ca) p) 25)) (.cells (Qap (.slice none 0 0) q0 (.slice none 0 0) 0) 37);simp only [World.size_alloc] at k1;have aA:=Qaa (Qaf k0 (a1 _ (.cells (Qap (.slice none 0 0) q0 (.slice none 0 0) 0) 37)));have al:=Qaa k1;have ax:=Qaa (Qac (a1 w (.cells (Qad (.slice ao N ca) p) 25)) (a1 _ (.cells (Qap (.slice none 0 0) q0 (.slice none 0 0) 0) 37)));clear hI a1 k0 k1;go_enter func19,ntmps19;go_upto_region 1 with fail;generalize (w.alloc _).alloc _=W0 at aA al ax ⊢;have aO:w.heap.size+1+1<=W0.heap.size:=(ZZc.1 al).1;have a8:=Qaa aO;clear aO;by_cases ae:20000<mm.size
 ·have bk:decide ((20000:Int)<(mm.size:Int))=true:=ZZh (by omega)
  have a4:(20000:Int)<(mm.size:Int):=by omega
  have ab:mfC S p mm=2:=by unfold mfC;rw [if_pos ae]
  have ac:Hid (MbR S p mm 6 (!inK (S.map Sd.nm) mm) (decide (S.length=1)) (QaU (S.map Sd.nm) mm) q0 (([]:List Sd).map Sd.key) 2):=Qaa (by unfold MbR;rw [ab,if_pos (by decide)];exact ⟨rfl,rfl,rfl⟩);clear ab;go_wp2_with fail;refine (Qa1 2 _).mono ?_;rintro e wz ⟨rfl,aa⟩;have HF:=Qaa (MbA.ill (Qaa ac).out (Qac ax aa));have R1:=Qaf al aa;obtain ⟨y0,y1,y2,y3,y4,y5,y6⟩:=Qbv R1;obtain ⟨f0,f1,f2,f3,f4,f5,f6⟩:=fA7 R1;clear R1 aa;go_wp2;exact bodyPost_ret (v:=.agg (Qap (.slice none 0 0) q0 (.slice none 0 0) 2)) (by simp [results,results19,go_sem,y0,y1,y2,y3,y4,y5,y6]) rfl HF
 have a4:¬ (20000:Int)<(mm.size:Int):=by omega
 obtain ⟨x0,x1,x2,x3,x4⟩:=Qa2 aA;go_wp2_with fail;clear x0 x1 x2 x3 x4;refine (Qa7 p HI.n HI.sm HI.ok (QaF HI.at' ax)).mono ?_;rintro e w1 ⟨rfl,ar⟩;have ak:=Qaa (Qaf aA ar);have ad:=Qaa (Qaf al ar);have aB:=Qaa (Qac ax ar);have aF:=Qaa (Nat.le_trans a8 ar.size);clear ar aA al
 cases hp:Qbi S p with
 | false=>
  have ab:mfC S p mm=1:=by unfold mfC;rw [if_neg ae,if_pos (.inl hp)]
  have ac:Hid (MbR S p mm 6 (!inK (S.map Sd.nm) mm) (decide (S.length=1)) (QaU (S.map Sd.nm) mm) q0 (([]:List Sd).map Sd.key) 1):=Qaa (by unfold MbR;rw [ab,if_pos (by decide)];exact ⟨rfl,rfl,rfl⟩);clear ab hp;go_wp2_with fail;refine (Qa1 1 _).mono ?_;rintro e wz ⟨rfl,aa⟩;have HF:=Qaa (MbA.ill (Qaa ac).out (Qac aB aa));have R1:=Qaf ad aa;obtain ⟨y0,y1,y2,y3,y4,y5,y6⟩:=Qbv R1;obtain ⟨f0,f1,f2,f3,f4,f5,f6⟩:=fA7 R1;clear R1 aa;go_wp2;exact bodyPost_ret (v:=.agg (Qap (.slice none 0 0) q0 (.slice none 0 0) 1)) (by simp [results,results19,go_sem,y0,y1,y2,y3,y4,y5,y6]) rfl HF
 | true=>
  have HP:=Qaa hp;clear hp;go_wp2_with fail;refine (QaH mm w1 hzm).mono ?_;rintro e w2 ⟨rfl,rfl⟩
  cases hn:QaB mm with
  | false=>
   have ab:mfC S p mm=1:=by unfold mfC;rw [if_neg ae,if_pos (.inr hn)]
   have ac:Hid (MbR S p mm 6 (!inK (S.map Sd.nm) mm) (decide (S.length=1)) (QaU (S.map Sd.nm) mm) q0 (([]:List Sd).map Sd.key) 1):=Qaa (by unfold MbR;rw [ab,if_pos (by decide)];exact ⟨rfl,rfl,rfl⟩);clear ab hn;go_wp2_with fail;refine (Qa1 1 _).mono ?_;rintro e wz ⟨rfl,aa⟩;have HF:=Qaa (MbA.ill (Qaa ac).out (Qac aB aa));have R1:=Qaf ad aa;obtain ⟨y0,y1,y2,y3,y4,y5,y6⟩:=Qbv R1;obtain ⟨f0,f1,f2,f3,f4,f5,f6⟩:=fA7 R1;clear R1 aa;go_wp2;exact bodyPost_ret (v:=.agg (Qap (.slice none 0 0) q0 (.slice none 0 0) 1)) (by simp [results,results19,go_sem,y0,y1,y2,y3,y4,y5,y6]) rfl HF
  | true=>
   have ab:mfC S p mm=0:=by unfold mfC;rw [if_neg ae,if_neg (by rw [HP.out,hn];simp)]
   have aD:=Qaa ab;have bj:=Qaa hn;have HQ:=Qaa (HI.qs HP);have bo:=HQ.n;clear hn ab;obtain ⟨x0,x1,x2,x3,x4⟩:=Qa2 ak;go_wp2_with fail;clear x0 x1 x2 x3 x4;refine (Qb4 p HI.n (by have:=HI.sm.n;have:=HI.n;omega) (QaF HI.at' aB)).mono ?_;rintro e w3 ⟨bn,cn,rfl,aV,ap⟩;obtain ⟨bg,be,bf,aR,aS⟩:=QgO aV;have af:(S.map Sd.nm).length=N:=aS;have bp:S.length=N:=by rw [yA] at af;exact af
   have aL:=Qaa (Qaf ak ap);have ah:=Qaa (Qaf ad ap);have aC:=Qaa (Qac aB ap);have aT:=Qaa aR;have au:w.heap.size+1+1<=w3.heap.size:=Nat.le_trans aF ap.size;have aG:=Qaa au;clear aV ap ak ad aR aS au;go_wp2_with fail;have HH:=Qaa (Qnc (w:=w3) (an:=bn) (cn:=cn) (K:=S.map Sd.nm) mm (by rw [yA];omega) aT);rw [af] at HH;refine HH.mono ?_;rintro e w4 ⟨rfl,a2⟩;rw [a2];clear a2 w4;clear HH;have am:Qag (S.map Sd.nm)=true:=Qbs (Qay HP).1;have ai:=Qaa am;clear am
   cases hk:inK (S.map Sd.nm) mm with
   | false=>
    have ac:Hid (MbR S p mm 6 (!inK (S.map Sd.nm) mm) (decide (S.length=1)) (QaU (S.map Sd.nm) mm) q0 (([]:List Sd).map Sd.key) 6):=Qaa (by unfold MbR;rw [aD.out,if_neg (by decide),if_pos (by rw [hk];rfl)];exact ⟨rfl,rfl,rfl⟩);clear hk;go_wp2_with fail;refine (Qa1 6 _).mono ?_;rintro e wz ⟨rfl,aa⟩;have HF:=Qaa (MbA.ill (Qaa ac).out (Qac aC aa));have R1:=Qaf ah aa;obtain ⟨y0,y1,y2,y3,y4,y5,y6⟩:=Qbv R1;obtain ⟨f0,f1,f2,f3,f4,f5,f6⟩:=fA7 R1;clear R1 aa;go_wp2;exact bodyPost_ret (v:=.agg (Qap (.slice none 0 0) q0 (.slice none 0 0) 6)) (by simp [results,results19,go_sem,y0,y1,y2,y3,y4,y5,y6]) rfl HF
   | true=>
    by_cases h8:N=1
    ·have d8:((N:Int) == 1)=true:=by rw [h8];rfl
     have ac:Hid (MbR S p mm 6 (!inK (S.map Sd.nm) mm) (decide (S.length=1)) (QaU (S.map Sd.nm) mm) q0 (([]:List Sd).map Sd.key) 8):=Qaa (by unfold MbR;rw [aD.out,if_neg (by decide),if_neg (by rw [hk];simp),if_pos (decide_eq_true (by omega))];exact ⟨rfl,rfl,rfl⟩);clear hk;go_wp2_with fail;refine (Qa1 8 _).mono ?_;rintro e wz ⟨rfl,aa⟩;have HF:=Qaa (MbA.ill (Qaa ac).out (Qac aC aa));have R1:=Qaf ah aa;obtain ⟨y0,y1,y2,y3,y4,y5,y6⟩:=Qbv R1;obtain ⟨f0,f1,f2,f3,f4,f5,f6⟩:=fA7 R1;clear R1 aa;go_wp2;exact bodyPost_ret (v:=.agg (Qap (.slice none 0 0) q0 (.slice none 0 0) 8)) (by simp [results,results19,go_sem,y0,y1,y2,y3,y4,y5,y6]) rfl HF
    ·have d8:((N:Int) == 1)=false:=by simpa using (by omega:¬ (N:Int)=1)
     have aP:Hid (decide (S.length=1)=false):=Qaa (ZZg (by omega));have aX:=inK_iff.1 hk;obtain ⟨A,R,av⟩:=List.append_of_mem aX
     have hK:QaU (S.map Sd.nm) mm=A ++ R:=by
      have h:=Qbo (QaW ai);rw [av] at h ⊢;exact QiK h
     have aj:(A ++ R).Sublist (S.map Sd.nm):=by rw [av];exact List.Sublist.append_left (List.sublist_cons_self _ _) _
     have bm:(A ++ R).length+1=N:=by rw [<- af,av];simp;omega
     have aM:Qag (QaU (S.map Sd.nm) mm)=true:=by
      rw [hK];exact Qiw (by omega) (by omega) (fun x hx=>Qbx ai (aj.subset hx)) ((QaW ai).sublist aj)
     have a9:=Qaa aM;have aK:=Qaa hk;have ac:Hid (∀ (X:List Sd) (L:List Ce),AscC L->(L.map Ce.key).Perm ((QaL S).map Ce.key)->ShrL (QaU (S.map Sd.nm) mm) L X->MbR S p mm 6 (!inK (S.map Sd.nm) mm) (decide (S.length=1)) (QaU (S.map Sd.nm) mm) p (X.map Sd.key) 0):=fun X L h1 h2 h3=>by unfold MbR;rw [aD.out,if_neg (by decide),if_neg (by rw [aK.out];simp),if_neg (by simp;omega)];exact ⟨rfl,rfl,L,h1,h2,h3.keys⟩
     clear hk aX av hK aj aM;obtain ⟨i0,hi,bi,bb,bd⟩:=info_parts Qen;have aW:Hid (OwnT (w3.alloc (.cells #[] 9)) w3.heap.size (.slice (some ⟨w3.heap.size,0,none⟩) 0 0) (QaU ((S.map Sd.nm).take 0) mm)/\Bw w3 (w3.alloc (.cells #[] 9))):=Qaa ⟨by rw [List.take_zero];exact World.ownsRow_made _ #[] 0 (Nat.le_refl _) (Nat.zero_le _) rfl,(Below.refl _ _).alloc (Nat.le_refl _) _⟩;go_wp2
     go_loopw [6,7] (fun v i wr=>∃ (k:Nat) (a0:Option Addr) (n0 c0:Nat),k<=N/\i=.int .i64 k/\v=.slice a0 n0 c0/\Hid (OwnT wr w3.heap.size (.slice a0 n0 c0) (QaU ((S.map Sd.nm).take k) mm)/\Bw w3 wr)) (fun v i wr=>N - (Go.RowKit.intOf i).toNat)
     case atStart=>exact ⟨0,_,_,_,ZZj _,rfl,rfl,aW⟩
     case round=>
      clear aW;obtain ⟨k,a0,n0,c0,hk,rfl,rfl,HV⟩:=hrel;by_cases a7:k<N
      ·have aJ:(k:Int)<(N:Int):=by omega
       obtain ⟨x,hx⟩:∃ x,(S.map Sd.nm)[k]?=some x:=⟨(S.map Sd.nm)[k]'(by rw [af];exact a7),List.getElem?_eq_getElem _⟩;obtain ⟨b,bl,e,hc⟩:=aT.out (by rw [af];omega);subst e;have x0:=Qab HV.2 (hc k x hx)
       have hq:QaU ((S.map Sd.nm).take (k+1)) mm=QaU ((S.map Sd.nm).take k) mm ++ QaU [x] mm:=by
        rw [List.take_add_one,hx];unfold QaU;rw [List.filter_append];rfl
       have a5:(QaU ((S.map Sd.nm).take k) mm).length<=12:=Nat.le_trans (List.length_filter_le _ _) (by rw [List.length_take,af];omega)
       cases qx:(x.toList == mm.toList) with
       | true=>
        have qn:(x.toList != mm.toList)=false:=by simp [bne,qx]
        have e1:QaU [x] mm=[]:=by unfold QaU;simp [qx]
        have HF:Hid (OwnT wr w3.heap.size (.slice a0 n0 c0) (QaU ((S.map Sd.nm).take (k+1)) mm)/\Bw w3 wr):=by rw [hq,e1,List.append_nil];exact HV
        clear hc hx hq e1;go_wp2;go_roundw
        case rel=>exact ⟨k+1,_,_,_,by omega,by first | rfl | go_num,rfl,HF⟩
        case measure=>simp [zI];omega
       | false=>
        have qn:(x.toList != mm.toList)=true:=by simp [bne,qx]
        have e1:QaU [x] mm=[x]:=by unfold QaU;simp [qx]
        rw [e1] at hq;obtain ⟨T,hT⟩:∃ T,QaU ((S.map Sd.nm).take k) mm=T:=⟨_,rfl⟩;rw [hT] at HV hq a5;have bc:=Qaa hq;have z3:=HV.2.size;have OW:Hid (wr.ownsRow w3.heap.size 9 1 (.slice a0 n0 c0) T.length (T.map Value.string)):=Qaa HV.1;clear hc hx hq e1 hT;go_wp2_with (at_builtin;refine wpList_append_own _ rfl _ _ 57 rfl w3.heap.size 9 i0 (.string ByteArray.empty) 1 16 underlying57 hi bi bb bd rfl (by decide) _ _ _ rfl (World.ownsRow.alloc OW _) ⟨wr.heap.size,0,none⟩ 1 1 [.string x] rfl rfl ?c1 ?c2 ?c3 ?c4 ?c5 ?_)
        case c1=>exact Qlf
        case c2=>first | rfl | (intro y hy;simp at hy;subst hy;rfl)
        case c3=>unfold maxLen;omega
        case c4=>omega
        case c5=>first | omega | (simp;omega)
        intro v' w5 aq ag _
        have aH:Hid (OwnT w5 w3.heap.size v' (QaU ((S.map Sd.nm).take (k+1)) mm)/\Bw w3 w5):=by
         rw [bc.out];refine Qaa ⟨?_,(HV.2.alloc z3 _).grown ag (by simp;omega) (fun j hj=>(World.ownsRow.lt OW j hj).1)⟩
         show World.ownsRow _ _ _ _ _ _ _
         rw [List.length_append,List.map_append];exact aq
        clear aq ag OW HV;obtain ⟨a1,c1,rfl⟩:=Qcj aH.1;have HF:=aH;clear aH;go_wp2;go_roundw
        case rel=>exact ⟨k+1,_,_,_,by omega,by first | rfl | go_num,rfl,HF⟩
        case measure=>simp [zI];omega
      ·have aJ:¬ (k:Int)<(N:Int):=by omega
       have az:=HV.1;rw [List.take_of_length_le (by rw [af];omega)] at az;obtain rfl:n0=(QaU (S.map Sd.nm) mm).length:=(QgO az).2.2.2.2.symm;have ay:=Qaa HV.2;have a3:=Qaa (QiG az);clear az HV;obtain ⟨x0,x1,x2,x3,x4⟩:=Qa2 (Qaf aL ay);go_wp2_with fail;clear x0 x1 x2 x3 x4;refine (QhQ p (HI.past (Qac aC ay)) HQ (QsI HP) a9 a3).mono ?_;rintro e w6 ⟨v6,X,L,rfl,aQ,aN,aY,aw,aE,aU⟩;obtain ⟨a6,c6,rfl,_⟩:=aw.form;have aZ:Hid (Bw w3 w6):=Qac ay aU;have HF:=Qaa (ac.out X L aQ aN aY);have z5:w.heap.size+1+1<=wr.heap.size:=Nat.le_trans aG ay.size;have ba:Hid (LvO w6 (w.heap.size+1+1) X):=Qaa (aE.le z5);have aI:Hid (∀ j,(Value.slice a6 X.length c6).ownBlock=some j->w.heap.size+1+1<=j):=fun j q=>Nat.le_trans z5 (World.ownsRow.lt aw j q).1;have bh:Hid (CpP w w6 X (.slice a6 X.length c6) X):=Qaa ⟨aw.le (by omega),aE.le (by omega),rfl,Qac aC aZ⟩;have R1:=Qaf ah aZ;obtain ⟨y0,y1,y2,y3,y4,y5,y6⟩:=Qbv R1;obtain ⟨f0,f1,f2,f3,f4,f5,f6⟩:=fA7 R1;clear R1 aQ aN aY aw aE aU;go_wp2;refine bodyPost_ret (v:=.agg (Qap (.slice a6 X.length c6) p (.slice none 0 0) 0)) (by simp [results,results19,go_sem,y0,y1,y2,y3,y4,y5,y6]) rfl ?_;have hC:=CpP.sets7 (v0:=.slice a6 X.length c6) (v1:=.int .i64 p.a) (v2:=.int .i64 p.b) (v3:=.int .i64 p.c) (v4:=.int .i64 p.d) (v5:=.slice none 0 0) (v6:=.int .i64 0) aI ba bh;have hF:=HF.out;rw [aK.out,aP.out] at hF;exact ⟨a6,_,c6,p,X,0,rfl,by first | exact hF | exact HF.out | (have h:=HF.out;rw [aP.out] at h;exact h) | (have h:=HF.out;rw [aK.out] at h;exact h),hC.r,hC.o,hC.b⟩
theorem mfC_0 (h:¬ mfC S p mm≠0):Qbi S p=true/\QaB mm=true:=by
 have h0:mfC S p mm=0:=Classical.not_not.1 h;unfold mfC at h0
 split at h0
 ·exact absurd h0 (by decide)
 ·split at h0
  ·exact absurd h0 (by decide)
  ·rename_i c
   refine ⟨?_,?_⟩
   ·cases q:Qbi S p
    ·exact absurd (.inl q) c
    ·rfl
   ·cases q:QaB mm
    ·exact absurd (.inr q) c
    ·rfl
theorem joinK (hp:Qbi S p=true) (hn:QaB mm=true) (h7:inK (S.map Sd.nm) mm=false) (h8:decide (12<=S.length)=false):Qag (QbL (S.map Sd.nm) mm)=true:=
 Qhi (Qbs (Qay hp).1) (fun h=>by rw [Qdl h] at h7;cases h7) (by have:=of_decide_eq_false h8;rw [yA];omega) hn
theorem leaveK (hp:Qbi S p=true) (hn:QaB mm=true) (h7:(!inK (S.map Sd.nm) mm)=false) (h8:decide (S.length=1)=false):Qag (QaU (S.map Sd.nm) mm)=true:=by
 have hk:inK (S.map Sd.nm) mm=true:=by simpa using h7
 have HM:=Qbs (Qay hp).1;have ac:=Qa8 HM;have af:=of_decide_eq_false h8;have ad:=inK_iff.1 hk;rw [yA] at ac;obtain ⟨A,R,ab⟩:=List.append_of_mem ad
 have hK:QaU (S.map Sd.nm) mm=A ++ R:=by
  have h:=Qbo (QaW HM);rw [ab] at h ⊢;exact QiK h
 have aa:(A ++ R).Sublist (S.map Sd.nm):=by rw [ab];exact List.Sublist.append_left (List.sublist_cons_self _ _) _
 have ae:(A ++ R).length+1=S.length:=by have h:=congrArg List.length ab;rw [yA] at h;rw [h];simp;omega
 rw [hK];exact Qiw (by omega) (by omega) (fun x hx=>Qbx HM (aa.subset hx)) ((QaW HM).sublist aa)
theorem MbR.key {T:List Sd} {q:Pi} {KM:List (ByteArray×List (Int×ByteArray×Ag))} (h:MbR T p mm c7 b7 b8 K q KM cd) (e:T.map Sd.key=S.map Sd.key):MbR S p mm c7 b7 b8 K q KM cd:=by
 have em:mfC T p mm=mfC S p mm:=by unfold mfC;rw [QiC e]
 unfold MbR at h ⊢;rw [em,Qc4 e] at h;exact h
def PoA (w:World) (R:Pi->List (ByteArray×List (Int×ByteArray×Ag))->List (Int×ByteArray×Ag)->Int->Prop) (e:Ending) (w':World):Prop:=
 ∃ a n c q M d m f C cd,e=.returned (.agg (Qap (.slice a n c) q (.slice d m f) cd))/\R q (M.map Sd.key) (C.map Ce.key) cd/\PoB w' w.heap.size w'.heap.size (.slice a n c) M (.slice d m f) C/\Bw w w'
def JnR (S:List Sd) (p:Pi) (mm:ByteArray) (q:Pi) (KM:List (ByteArray×List (Int×ByteArray×Ag))) (KC:List (Int×ByteArray×Ag)) (cd:Int):Prop:=MbR S p mm 7 (inK (S.map Sd.nm) mm) (decide (12<=S.length)) (QbL (S.map Sd.nm) mm) q KM cd/\KC=[]
def LeR (S:List Sd) (p:Pi) (mm:ByteArray) (q:Pi) (KM:List (ByteArray×List (Int×ByteArray×Ag))) (KC:List (Int×ByteArray×Ag)) (cd:Int):Prop:=MbR S p mm 6 (!inK (S.map Sd.nm) mm) (decide (S.length=1)) (QaU (S.map Sd.nm) mm) q KM cd/\KC=[]
section
variable {w w':World} {S T M:List Sd} {C:List Ce} {p q q':Pi} {mm:ByteArray} {en:Ending} {KM KM':List (ByteArray×List (Int×ByteArray×Ag))} {KC KC':List (Int×ByteArray×Ag)} {cd cd':Int}
theorem Qk6 (e:T.map Sd.key=S.map Sd.key):T.map Sd.nm=S.map Sd.nm/\T.length=S.length:=by
 have h:=congrArg (List.map Prod.fst) e;rw [List.map_map,List.map_map] at h;have l:=congrArg List.length e;rw [yA,yA] at l;exact ⟨h,l⟩
theorem Qq0 (e:T.map Sd.key=S.map Sd.key) (h:MbA w T p mm 7 (inK (T.map Sd.nm) mm) (decide (12<=T.length)) (QbL (T.map Sd.nm) mm) en w'):PoA w (JnR S p mm) en w':=by
 obtain ⟨a,k,c,q,M,cd,rfl,hR,r,o,b⟩:=h;rw [(Qk6 e).1,(Qk6 e).2] at hR;exact ⟨a,k,c,q,M,none,0,0,[],cd,rfl,⟨hR.key e,rfl⟩,PoB.none r o,b⟩
end
end Go.Proofs.YtlejlgldgafljaaGreatDoor
