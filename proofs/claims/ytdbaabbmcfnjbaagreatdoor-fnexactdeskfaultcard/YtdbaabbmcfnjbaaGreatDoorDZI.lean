/-
 Parts.
-/
import Derived.Test.YtdbaabbmcfnjbaaGreatDoorDZF
import Derived.Test.YtdbaabbmcfnjbaaGreatDoorDZD
set_option maxRecDepth 10000
set_option maxHeartbeats 16000000
set_option linter.all false
namespace Go.Proofs.YtdbaabbmcfnjbaaGreatDoor
open Go.ChangeShapes Go.WideShapes Go.ChangeAt Go.RowKit Go.PlainAid Go.Lib Go.Maps Tryz
theorem QaT (cd:Int) (w:World):Calls prog 51 #[.int .i64 cd] w fun e w'=>e=.returned (.agg (QaI (.slice none 0 0) q0 (.slice none 0 0) cd))/\Below w.heap.size w w':=by
 have HB:Hid (∀ o1,Below w.heap.size w (w.alloc o1)):=fun o1=>(ZZb _ _).alloc (ZZa _) _;go_enter func51,ntmps51;go_wp2;exact bodyPost_ret (v:=.agg (QaI (.slice none 0 0) q0 (.slice none 0 0) cd)) (by simp [results,results51,go_sem]) rfl ⟨rfl,HB.out _⟩
variable {w:World}
variable {K:List ByteArray}
theorem QlD {an:Option Addr} {cn:Nat} (u:ByteArray) (hl:K.length<=100000) (hA:Qaw w an K) :
  Calls prog 71 #[.slice an K.length cn,.string u] w fun e w'=>e=.returned (.bool (inK K u))/\w'=w:=by
 have HA:=Qaa hA;obtain ⟨B,hB⟩:∃ B,inK K u=B:=⟨_,rfl⟩;rw [hB];have HB:=Qaa hB;clear hA hB;go_enter func71,ntmps71;go_wp2
 go_loopw [5] (fun i wr=>∃ (k:Nat),k<=K.length/\i=.int .i64 k/\Hid (u ∉ K.take k)/\wr=w) (fun i wr=>K.length - (Go.RowKit.intOf i).toNat)
 case atStart=>exact ⟨0,Nat.zero_le _,rfl,Qaa (by simp),rfl⟩
 case round=>
  obtain ⟨k,hk,rfl,HU,ab⟩:=hrel;subst ab;by_cases ac:k<K.length
  ·have aa:(k:Int)<(K.length:Int):=by omega
   obtain ⟨x,hx⟩:∃ x,K[k]?=some x:=⟨K[k],ZZe ac⟩;obtain ⟨b,ad,e,hc⟩:=HA.out (by omega);subst e;have x0:=hc k x hx
   cases q:(x.toList == u.toList) with
   | true=>
    obtain rfl:B=true:=by rw [<- HB.out];exact QfO (by rw [<- QbV q];exact List.mem_of_getElem? hx)
    clear hc hx;go_wp2;go_ret;exact ⟨rfl,rfl⟩
   | false=>
    have HF:Hid (u ∉ K.take (k+1)):=by
     rw [List.take_add_one,hx];refine Qaa (fun h=>?_);rcases List.mem_append.1 h with h | h
     ·exact HU.out h
     ·have e:u=x:=by simpa using h
      rw [e] at q;simp at q
    clear hc hx;go_wp2;go_roundw
    case rel=>exact ⟨k+1,by omega,by first | rfl | go_num,HF,by first | rfl | trivial⟩
    case measure=>simp [zI];omega
  ·have aa:¬ (k:Int)<(K.length:Int):=by omega
   obtain rfl:B=false:=by
    rw [<- HB.out];have h:=HU.out;rw [List.take_of_length_le (by omega)] at h;exact Qse h
   go_wp2;go_ret;exact ⟨rfl,rfl⟩
variable {ao:Option Addr}
theorem Qef {B n cp:Nat} (h:OwnT w B (.slice ao n cp) K):n<=cp/\cp<=maxLen/\(ao=none->cp=0)/\Qaw w ao K/\K.length=n:=by
 rcases h.2 with ⟨e,q⟩ | ⟨g,ab,aa,e,q1,q2,q3,q4,q5⟩
 ·injection e with e1 e2 e3
  exact ⟨by omega,by unfold maxLen;omega,fun _=>e3,fun h0=>by omega,by omega⟩
 ·injection e with e1 e2 e3
  subst e1;subst e2;subst e3;exact ⟨q3,q4,(fun e=>by cases e),QkI h,rfl⟩
variable {S:List Sd}
variable {p:Pi}
theorem Qsu (h:QaZ S p=true):∀ s∈S,∀ c∈s.L,c.s.size<=100:=fun s hs c hc=>(Qnb ((QjG (Qcz (QaE h).1 hs)).2.1 c hc)).2
variable {mm:ByteArray}
theorem MbA.ill {wr:World} {c7 cd:Int} {b7 b8:Bool} (hR:MbR S p mm c7 b7 b8 K q0 (([]:List Sd).map Sd.key) cd) (hb:Below w.heap.size w wr):MbA w S p mm c7 b7 b8 K (.returned (.agg (QaI (.slice none 0 0) q0 (.slice none 0 0) cd))) (((((((wr.setCell ⟨w.heap.size+1,0,none⟩ (.slice none 0 0)).setCell ⟨w.heap.size+1,1,none⟩ (.int .i64 0)).setCell ⟨w.heap.size+1,2,none⟩ (.int .i64 0)).setCell ⟨w.heap.size+1,3,none⟩ (.int .i64 0)).setCell ⟨w.heap.size+1,4,none⟩ (.int .i64 0)).setCell ⟨w.heap.size+1,5,none⟩ (.slice none 0 0)).setCell ⟨w.heap.size+1,6,none⟩ (.int .i64 cd)):=by
 have hC:=CpP.sets7 (v0:=.slice none 0 0) (v1:=.int .i64 0) (v2:=.int .i64 0) (v3:=.int .i64 0) (v4:=.int .i64 0) (v5:=.slice none 0 0) (v6:=.int .i64 cd) (fun j q=>by cases q) (LvO.nil _ _) (QpO hb);exact ⟨none,0,0,q0,[],cd,rfl,hR,hC.r,hC.o,hC.b⟩
variable {N ca:Nat}
theorem Qil (p:Pi) (mm:ByteArray) (hzm:mm.size<=maxLen) (hI:PpI w ao N S) :
  Calls prog 25 #[.agg (Qam (.slice ao N ca) p),.string mm] w fun e w'=>MbA w S p mm 7 (inK (S.map Sd.nm) mm) (decide (12<=S.length)) (QcE (S.map Sd.nm) mm) e w':=by
 have HI:=Qaa hI;have a1:∀ (X:World) o,Below X.heap.size X (X.alloc o):=fun X o=>(ZZb _ _).alloc (ZZa _) _;have k0:=ZZk w (.cells (Qam (.slice ao N ca) p) 35);have k1:=ZZk (w.alloc (.cells (Qam (.slice ao N ca) p) 35)) (.cells (QaI (.slice none 0 0) q0 (.slice none 0 0) 0) 66);simp only [World.size_alloc] at k1;have ax:=Qaa (QaA k0 (a1 _ (.cells (QaI (.slice none 0 0) q0 (.slice none 0 0) 0) 66)));have ai:=Qaa k1;have ay:=Qaa (Qac (a1 w (.cells (Qam (.slice ao N ca) p) 35)) (a1 _ (.cells (QaI (.slice none 0 0) q0 (.slice none 0 0) 0) 66)));clear hI a1 k0 k1;go_enter func25,ntmps25;go_upto_region 1 with fail;generalize (w.alloc (.cells (Qam (.slice ao N ca) p) 35)).alloc (.cells (QaI (.slice none 0 0) q0 (.slice none 0 0) 0) 66)=W0 at ax ai ay ⊢;have aS:w.heap.size+1+1<=W0.heap.size:=(ZZc.1 ai).1;have a8:=Qaa aS;clear aS;by_cases ad:20000<mm.size
 ·have bc:decide ((20000:Int)<(mm.size:Int))=true:=ZZh (by omega)
  have aZ:(20000:Int)<(mm.size:Int):=by omega
  have ac:mfC S p mm=2:=by unfold mfC;rw [if_pos ad]
  have ab:Hid (MbR S p mm 7 (inK (S.map Sd.nm) mm) (decide (12<=S.length)) (QcE (S.map Sd.nm) mm) q0 (([]:List Sd).map Sd.key) 2):=Qaa (by unfold MbR;rw [ac,if_pos (by decide)];exact ⟨rfl,rfl,rfl⟩);clear ac;go_wp2_with fail;refine (QaT 2 _).mono ?_;rintro e wz ⟨rfl,aa⟩;have HF:=Qaa (MbA.ill (Qaa ab).out (Qac ay aa));have R1:=QaA ai aa;obtain ⟨y0,y1,y2,y3,y4,y5,y6⟩:=Qd4 R1;obtain ⟨f0,f1,f2,f3,f4,f5,f6⟩:=fA7 R1;clear R1 aa;go_wp2;exact bodyPost_ret (v:=.agg (QaI (.slice none 0 0) q0 (.slice none 0 0) 2)) (by simp [results,results25,go_sem,y0,y1,y2,y3,y4,y5,y6]) rfl HF
 have aZ:¬ (20000:Int)<(mm.size:Int):=by omega
 obtain ⟨x0,x1,x2,x3,x4⟩:=QdF ax;go_wp2_with fail;clear x0 x1 x2 x3 x4;refine (Qbz p HI.out.n HI.out.sm HI.out.ok (Qbd HI.out.at' ay)).mono ?_;rintro e w1 ⟨rfl,al⟩;have af:=Qaa (QaA ax al);have ae:=Qaa (QaA ai al);have aq:=Qaa (Qac ay al);have aA:=Qaa (Nat.le_trans a8 al.size);clear al ax ai
 cases hp:QaZ S p with
 | false=>
  have ac:mfC S p mm=1:=by unfold mfC;rw [if_neg ad,if_pos (.inl hp)]
  have ab:Hid (MbR S p mm 7 (inK (S.map Sd.nm) mm) (decide (12<=S.length)) (QcE (S.map Sd.nm) mm) q0 (([]:List Sd).map Sd.key) 1):=Qaa (by unfold MbR;rw [ac,if_pos (by decide)];exact ⟨rfl,rfl,rfl⟩);clear ac hp;go_wp2_with fail;refine (QaT 1 _).mono ?_;rintro e wz ⟨rfl,aa⟩;have HF:=Qaa (MbA.ill (Qaa ab).out (Qac aq aa));have R1:=QaA ae aa;obtain ⟨y0,y1,y2,y3,y4,y5,y6⟩:=Qd4 R1;obtain ⟨f0,f1,f2,f3,f4,f5,f6⟩:=fA7 R1;clear R1 aa;go_wp2;exact bodyPost_ret (v:=.agg (QaI (.slice none 0 0) q0 (.slice none 0 0) 1)) (by simp [results,results25,go_sem,y0,y1,y2,y3,y4,y5,y6]) rfl HF
 | true=>
  have HP:=Qaa hp;clear hp;go_wp2_with fail;refine (QaL mm w1 hzm).mono ?_;rintro e w2 ⟨rfl,rfl⟩
  cases hn:QaK mm with
  | false=>
   have ac:mfC S p mm=1:=by unfold mfC;rw [if_neg ad,if_pos (.inr hn)]
   have ab:Hid (MbR S p mm 7 (inK (S.map Sd.nm) mm) (decide (12<=S.length)) (QcE (S.map Sd.nm) mm) q0 (([]:List Sd).map Sd.key) 1):=Qaa (by unfold MbR;rw [ac,if_pos (by decide)];exact ⟨rfl,rfl,rfl⟩);clear ac hn;go_wp2_with fail;refine (QaT 1 _).mono ?_;rintro e wz ⟨rfl,aa⟩;have HF:=Qaa (MbA.ill (Qaa ab).out (Qac aq aa));have R1:=QaA ae aa;obtain ⟨y0,y1,y2,y3,y4,y5,y6⟩:=Qd4 R1;obtain ⟨f0,f1,f2,f3,f4,f5,f6⟩:=fA7 R1;clear R1 aa;go_wp2;exact bodyPost_ret (v:=.agg (QaI (.slice none 0 0) q0 (.slice none 0 0) 1)) (by simp [results,results25,go_sem,y0,y1,y2,y3,y4,y5,y6]) rfl HF
  | true=>
   have ac:mfC S p mm=0:=by unfold mfC;rw [if_neg ad,if_neg (by rw [HP.out,hn];simp)]
   have az:=Qaa ac;have a0:=Qaa hn;have HQ:=Qaa (HI.out.qs HP);have ba:=HQ.out.n;clear hn ac;obtain ⟨x0,x1,x2,x3,x4⟩:=QdF af;go_wp2_with fail;clear x0 x1 x2 x3 x4;refine (QbR p HI.out.n (by have:=HI.out.sm.n;have:=HI.out.n;omega) (Qbd HI.out.at' aq)).mono ?_;rintro e w3 ⟨bn,cn,rfl,aU,ah⟩;obtain ⟨aD,aB,aG,aQ,aO⟩:=Qef aU;have ak:(S.map Sd.nm).length=N:=aO;have bb:S.length=N:=by rw [List.length_map] at ak;exact ak
   have aE:=Qaa (QaA af ah);have ag:=Qaa (QaA ae ah);have au:=Qaa (Qac aq ah);have aY:=Qaa aQ;have aj:w.heap.size+1+1<=w3.heap.size:=Nat.le_trans aA ah.size;have aJ:=Qaa aj;clear aU ah af ae aQ aO aj;go_wp2_with fail;have HH:=Qaa (QlD (w:=w3) (an:=bn) (cn:=cn) (K:=S.map Sd.nm) mm (by rw [List.length_map];omega) aY);rw [ak] at HH;refine HH.out.mono ?_;rintro e w4 ⟨rfl,aW⟩;rw [aW];clear aW w4;clear HH;have ap:Qaj (S.map Sd.nm)=true:=Qb2 (QaE HP).1;have aF:=Qaa ap;clear ap
   cases hk:inK (S.map Sd.nm) mm with
   | true=>
    have ab:Hid (MbR S p mm 7 (inK (S.map Sd.nm) mm) (decide (12<=S.length)) (QcE (S.map Sd.nm) mm) q0 (([]:List Sd).map Sd.key) 7):=Qaa (by unfold MbR;rw [az.out,if_neg (by decide),if_pos hk];exact ⟨rfl,rfl,rfl⟩);clear hk;go_wp2_with fail;refine (QaT 7 _).mono ?_;rintro e wz ⟨rfl,aa⟩;have HF:=Qaa (MbA.ill (Qaa ab).out (Qac au aa));have R1:=QaA ag aa;obtain ⟨y0,y1,y2,y3,y4,y5,y6⟩:=Qd4 R1;obtain ⟨f0,f1,f2,f3,f4,f5,f6⟩:=fA7 R1;clear R1 aa;go_wp2;exact bodyPost_ret (v:=.agg (QaI (.slice none 0 0) q0 (.slice none 0 0) 7)) (by simp [results,results25,go_sem,y0,y1,y2,y3,y4,y5,y6]) rfl HF
   | false=>
    by_cases h8:12<=N
    ·have d8:decide ((12:Int)<=(N:Int))=true:=ZZh (by omega)
     have a4:(12:Int)<=(N:Int):=by omega
     have ab:Hid (MbR S p mm 7 (inK (S.map Sd.nm) mm) (decide (12<=S.length)) (QcE (S.map Sd.nm) mm) q0 (([]:List Sd).map Sd.key) 8):=Qaa (by unfold MbR;rw [az.out,if_neg (by decide),if_neg (by rw [hk];simp),if_pos (decide_eq_true (by omega))];exact ⟨rfl,rfl,rfl⟩);clear hk;go_wp2_with fail;refine (QaT 8 _).mono ?_;rintro e wz ⟨rfl,aa⟩;have HF:=Qaa (MbA.ill (Qaa ab).out (Qac au aa));have R1:=QaA ag aa;obtain ⟨y0,y1,y2,y3,y4,y5,y6⟩:=Qd4 R1;obtain ⟨f0,f1,f2,f3,f4,f5,f6⟩:=fA7 R1;clear R1 aa;go_wp2;exact bodyPost_ret (v:=.agg (QaI (.slice none 0 0) q0 (.slice none 0 0) 8)) (by simp [results,results25,go_sem,y0,y1,y2,y3,y4,y5,y6]) rfl HF
    ·have a4:¬ (12:Int)<=(N:Int):=by omega
     have aN:Hid (decide (12<=S.length)=false):=Qaa (ZZg (by omega));have aX:mm ∉ S.map Sd.nm:=fun h=>by rw [QfO h] at hk;cases hk
     have aR:=Qjp aF aX (by rw [ak];omega) a0;have a9:=Qaa aR;have aI:=Qaa hk;have ab:Hid (∀ (X:List Sd) (L:List Ce),Qck L->(L.map Ce.key).Perm ((QaN S).map Ce.key)->ShrL (QcE (S.map Sd.nm) mm) L X->MbR S p mm 7 (inK (S.map Sd.nm) mm) (decide (12<=S.length)) (QcE (S.map Sd.nm) mm) p (X.map Sd.key) 0):=fun X L h1 h2 h3=>by unfold MbR;rw [az.out,if_neg (by decide),if_neg (by rw [aI.out];simp),if_neg (by simp;omega)];exact ⟨rfl,rfl,L,h1,h2,h3.keys⟩
     clear hk aX aR;go_upto_region 10 with fail;have am:Hid ((fun W=>Below w3.heap.size w3 W) w3.drew):=(ZZb _ _).drew;refine Qao (fun W=>Below w3.heap.size w3 W) 6 (by kernel_rfl) ?_;refine tkL 0 (.agg (Qam (.slice ao N ca) p)) am (fun W hW=>?_) ?_
     ·obtain ⟨x0,x1,x2,x3,x4⟩:=QdF (QaA aE hW)
      clear hW;go_simp
     refine tkS 1 (.slice bn N cn) am ?_;refine tkS 2 (.string mm) am ?_;simp only [sX];refine onE 3 fun K hK=>?_;go_simp;refine (Qhd mm ak (by omega) aD aB aG (QaB aY am)).mono ?_;rintro e w5 ⟨v5,rfl,aK,aT⟩;obtain ⟨a5,c5,rfl⟩:=Qfo aK;have ar:Hid (Below w3.heap.size w3 w5):=Qac am aT;have a7:=Qaa (QkI aK);clear aT aK;dsimp only;refine gK hK ar.out ?_
     try simp only [sX]
     refine onE 4 fun K hK=>?_;go_simp;refine (Qhe p (HI.out.past (Qac au ar)) HQ (Qsu HP) a9 a7).mono ?_;rintro e w6 ⟨v6,X,L,rfl,aV,aM,aL,av,aC,aP⟩;obtain ⟨a6,c6,rfl,_⟩:=av.form;have aw:Hid (Below w3.heap.size w3 w6):=Qac ar aP;have HF:=Qaa (ab.out X L aV aM aL);have z5:w.heap.size+1+1<=w5.heap.size:=Nat.le_trans aJ ar.out.size;have a3:Hid (LvO w6 (w.heap.size+1+1) X):=Qaa (aC.le z5);have aH:Hid (∀ j,(Value.slice a6 X.length c6).ownBlock=some j->w.heap.size+1+1<=j):=fun j q=>Nat.le_trans z5 (World.ownsRow.lt av j q).1;have a2:Hid (CpP w w6 X (.slice a6 X.length c6) X):=Qaa ⟨av.le (by omega),aC.le (by omega),rfl,Qac au aw⟩;clear aV aM aL av aC aP;dsimp only;refine gK hK aw.out ?_
     try simp only [sX]
     refine tkS 5 (.agg (QaI (.slice a6 X.length c6) p (.slice none 0 0) 0)) aw ?_;simp only [sX];have R1:=QaA ag aw;obtain ⟨y0,y1,y2,y3,y4,y5,y6⟩:=Qd4 R1;obtain ⟨f0,f1,f2,f3,f4,f5,f6⟩:=fA7 R1;clear R1;refine onE 6 fun K hK=>?_;go_simp;refine hK.out _ _ (fun h=>absurd rfl h) ?_
     try simp only [sX]
     refine dnE ?_ _;go_wp2;refine bodyPost_ret (v:=.agg (QaI (.slice a6 X.length c6) p (.slice none 0 0) 0)) (by simp [results,results25,go_sem,y0,y1,y2,y3,y4,y5,y6]) rfl ?_;have hC:=CpP.sets7 (v0:=.slice a6 X.length c6) (v1:=.int .i64 p.a) (v2:=.int .i64 p.b) (v3:=.int .i64 p.c) (v4:=.int .i64 p.d) (v5:=.slice none 0 0) (v6:=.int .i64 0) aH a3 a2;have hF:=HF.out;rw [aI.out,aN.out] at hF;exact ⟨a6,_,c6,p,X,0,rfl,by first | exact hF | exact HF.out | (have h:=HF.out;rw [aN.out] at h;exact h) | (have h:=HF.out;rw [aI.out] at h;exact h),hC.r,hC.o,hC.b⟩
theorem QhP (p:Pi) (mm:ByteArray) (hzm:mm.size<=maxLen) (hI:PpI w ao N S) :
  Calls prog 26 #[.agg (Qam (.slice ao N ca) p),.string mm] w fun e w'=>MbA w S p mm 6 (!inK (S.map Sd.nm) mm) (decide (S.length=1)) (Qbe (S.map Sd.nm) mm) e w':=by
 have HI:=Qaa hI;have a1:∀ (X:World) o,Below X.heap.size X (X.alloc o):=fun X o=>(ZZb _ _).alloc (ZZa _) _;have k0:=ZZk w (.cells (Qam (.slice ao N ca) p) 35);have k1:=ZZk (w.alloc (.cells (Qam (.slice ao N ca) p) 35)) (.cells (QaI (.slice none 0 0) q0 (.slice none 0 0) 0) 66);simp only [World.size_alloc] at k1;have aA:=Qaa (QaA k0 (a1 _ (.cells (QaI (.slice none 0 0) q0 (.slice none 0 0) 0) 66)));have am:=Qaa k1;have aC:=Qaa (Qac (a1 w (.cells (Qam (.slice ao N ca) p) 35)) (a1 _ (.cells (QaI (.slice none 0 0) q0 (.slice none 0 0) 0) 66)));clear hI a1 k0 k1;go_enter func26,ntmps26;go_upto_region 1 with fail;generalize (w.alloc (.cells (Qam (.slice ao N ca) p) 35)).alloc (.cells (QaI (.slice none 0 0) q0 (.slice none 0 0) 0) 66)=W0 at aA am aC ⊢;have aV:w.heap.size+1+1<=W0.heap.size:=(ZZc.1 am).1;have ba:=Qaa aV;clear aV;by_cases ad:20000<mm.size
 ·have bp:decide ((20000:Int)<(mm.size:Int))=true:=ZZh (by omega)
  have a4:(20000:Int)<(mm.size:Int):=by omega
  have ac:mfC S p mm=2:=by unfold mfC;rw [if_pos ad]
  have ab:Hid (MbR S p mm 6 (!inK (S.map Sd.nm) mm) (decide (S.length=1)) (Qbe (S.map Sd.nm) mm) q0 (([]:List Sd).map Sd.key) 2):=Qaa (by unfold MbR;rw [ac,if_pos (by decide)];exact ⟨rfl,rfl,rfl⟩);clear ac;go_wp2_with fail;refine (QaT 2 _).mono ?_;rintro e wz ⟨rfl,aa⟩;have HF:=Qaa (MbA.ill (Qaa ab).out (Qac aC aa));have R1:=QaA am aa;obtain ⟨y0,y1,y2,y3,y4,y5,y6⟩:=Qd4 R1;obtain ⟨f0,f1,f2,f3,f4,f5,f6⟩:=fA7 R1;clear R1 aa;go_wp2;exact bodyPost_ret (v:=.agg (QaI (.slice none 0 0) q0 (.slice none 0 0) 2)) (by simp [results,results26,go_sem,y0,y1,y2,y3,y4,y5,y6]) rfl HF
 have a4:¬ (20000:Int)<(mm.size:Int):=by omega
 obtain ⟨x0,x1,x2,x3,x4⟩:=QdF aA;go_wp2_with fail;clear x0 x1 x2 x3 x4;refine (Qbz p HI.out.n HI.out.sm HI.out.ok (Qbd HI.out.at' aC)).mono ?_;rintro e w1 ⟨rfl,ar⟩;have ai:=Qaa (QaA aA ar);have ae:=Qaa (QaA am ar);have av:=Qaa (Qac aC ar);have aE:=Qaa (Nat.le_trans ba ar.size);clear ar aA am
 cases hp:QaZ S p with
 | false=>
  have ac:mfC S p mm=1:=by unfold mfC;rw [if_neg ad,if_pos (.inl hp)]
  have ab:Hid (MbR S p mm 6 (!inK (S.map Sd.nm) mm) (decide (S.length=1)) (Qbe (S.map Sd.nm) mm) q0 (([]:List Sd).map Sd.key) 1):=Qaa (by unfold MbR;rw [ac,if_pos (by decide)];exact ⟨rfl,rfl,rfl⟩);clear ac hp;go_wp2_with fail;refine (QaT 1 _).mono ?_;rintro e wz ⟨rfl,aa⟩;have HF:=Qaa (MbA.ill (Qaa ab).out (Qac av aa));have R1:=QaA ae aa;obtain ⟨y0,y1,y2,y3,y4,y5,y6⟩:=Qd4 R1;obtain ⟨f0,f1,f2,f3,f4,f5,f6⟩:=fA7 R1;clear R1 aa;go_wp2;exact bodyPost_ret (v:=.agg (QaI (.slice none 0 0) q0 (.slice none 0 0) 1)) (by simp [results,results26,go_sem,y0,y1,y2,y3,y4,y5,y6]) rfl HF
 | true=>
  have HP:=Qaa hp;clear hp;go_wp2_with fail;refine (QaL mm w1 hzm).mono ?_;rintro e w2 ⟨rfl,rfl⟩
  cases hn:QaK mm with
  | false=>
   have ac:mfC S p mm=1:=by unfold mfC;rw [if_neg ad,if_pos (.inr hn)]
   have ab:Hid (MbR S p mm 6 (!inK (S.map Sd.nm) mm) (decide (S.length=1)) (Qbe (S.map Sd.nm) mm) q0 (([]:List Sd).map Sd.key) 1):=Qaa (by unfold MbR;rw [ac,if_pos (by decide)];exact ⟨rfl,rfl,rfl⟩);clear ac hn;go_wp2_with fail;refine (QaT 1 _).mono ?_;rintro e wz ⟨rfl,aa⟩;have HF:=Qaa (MbA.ill (Qaa ab).out (Qac av aa));have R1:=QaA ae aa;obtain ⟨y0,y1,y2,y3,y4,y5,y6⟩:=Qd4 R1;obtain ⟨f0,f1,f2,f3,f4,f5,f6⟩:=fA7 R1;clear R1 aa;go_wp2;exact bodyPost_ret (v:=.agg (QaI (.slice none 0 0) q0 (.slice none 0 0) 1)) (by simp [results,results26,go_sem,y0,y1,y2,y3,y4,y5,y6]) rfl HF
  | true=>
   have ac:mfC S p mm=0:=by unfold mfC;rw [if_neg ad,if_neg (by rw [HP.out,hn];simp)]
   have aD:=Qaa ac;have bj:=Qaa hn;have HQ:=Qaa (HI.out.qs HP);have bm:=HQ.out.n;clear hn ac;obtain ⟨x0,x1,x2,x3,x4⟩:=QdF ai;go_wp2_with fail;clear x0 x1 x2 x3 x4;refine (QbR p HI.out.n (by have:=HI.out.sm.n;have:=HI.out.n;omega) (Qbd HI.out.at' av)).mono ?_;rintro e w3 ⟨bn,cn,rfl,aX,al⟩;obtain ⟨bd,a8,be,aT,aR⟩:=Qef aX;have af:(S.map Sd.nm).length=N:=aR;have bo:S.length=N:=by rw [List.length_map] at af;exact af
   have aH:=Qaa (QaA ai al);have ak:=Qaa (QaA ae al);have ax:=Qaa (Qac av al);have a2:=Qaa aT;have ap:w.heap.size+1+1<=w3.heap.size:=Nat.le_trans aE al.size;have aL:=Qaa ap;clear aX al ai ae aT aR ap;go_wp2_with fail;have HH:=Qaa (QlD (w:=w3) (an:=bn) (cn:=cn) (K:=S.map Sd.nm) mm (by rw [List.length_map];omega) a2);rw [af] at HH;refine HH.out.mono ?_;rintro e w4 ⟨rfl,aZ⟩;rw [aZ];clear aZ w4;clear HH;have au:Qaj (S.map Sd.nm)=true:=Qb2 (QaE HP).1;have aj:=Qaa au;clear au
   cases hk:inK (S.map Sd.nm) mm with
   | false=>
    have ab:Hid (MbR S p mm 6 (!inK (S.map Sd.nm) mm) (decide (S.length=1)) (Qbe (S.map Sd.nm) mm) q0 (([]:List Sd).map Sd.key) 6):=Qaa (by unfold MbR;rw [aD.out,if_neg (by decide),if_pos (by rw [hk];rfl)];exact ⟨rfl,rfl,rfl⟩);clear hk;go_wp2_with fail;refine (QaT 6 _).mono ?_;rintro e wz ⟨rfl,aa⟩;have HF:=Qaa (MbA.ill (Qaa ab).out (Qac ax aa));have R1:=QaA ak aa;obtain ⟨y0,y1,y2,y3,y4,y5,y6⟩:=Qd4 R1;obtain ⟨f0,f1,f2,f3,f4,f5,f6⟩:=fA7 R1;clear R1 aa;go_wp2;exact bodyPost_ret (v:=.agg (QaI (.slice none 0 0) q0 (.slice none 0 0) 6)) (by simp [results,results26,go_sem,y0,y1,y2,y3,y4,y5,y6]) rfl HF
   | true=>
    by_cases h8:N=1
    ·have d8:((N:Int) == 1)=true:=by rw [h8];rfl
     have ab:Hid (MbR S p mm 6 (!inK (S.map Sd.nm) mm) (decide (S.length=1)) (Qbe (S.map Sd.nm) mm) q0 (([]:List Sd).map Sd.key) 8):=Qaa (by unfold MbR;rw [aD.out,if_neg (by decide),if_neg (by rw [hk];simp),if_pos (decide_eq_true (by omega))];exact ⟨rfl,rfl,rfl⟩);clear hk;go_wp2_with fail;refine (QaT 8 _).mono ?_;rintro e wz ⟨rfl,aa⟩;have HF:=Qaa (MbA.ill (Qaa ab).out (Qac ax aa));have R1:=QaA ak aa;obtain ⟨y0,y1,y2,y3,y4,y5,y6⟩:=Qd4 R1;obtain ⟨f0,f1,f2,f3,f4,f5,f6⟩:=fA7 R1;clear R1 aa;go_wp2;exact bodyPost_ret (v:=.agg (QaI (.slice none 0 0) q0 (.slice none 0 0) 8)) (by simp [results,results26,go_sem,y0,y1,y2,y3,y4,y5,y6]) rfl HF
    ·have d8:((N:Int) == 1)=false:=by simpa using (by omega:¬ (N:Int)=1)
     have aP:Hid (decide (S.length=1)=false):=Qaa (ZZg (by omega));have aN:=inK_iff.1 hk;obtain ⟨A,R,ay⟩:=List.append_of_mem aN
     have hK:Qbe (S.map Sd.nm) mm=A ++ R:=by
      have h:=QbK (QbQ aj);rw [ay] at h ⊢;exact QkJ h
     have ah:(A ++ R).Sublist (S.map Sd.nm):=by rw [ay];exact List.Sublist.append_left (List.sublist_cons_self _ _) _
     have bl:(A ++ R).length+1=N:=by rw [<- af,ay];simp;omega
     have aU:Qaj (Qbe (S.map Sd.nm) mm)=true:=by
      rw [hK];exact QkD (by omega) (by omega) (fun x hx=>Qcc aj (ah.subset hx)) ((QbQ aj).sublist ah)
     have bc:=Qaa aU;have aK:=Qaa hk;have ab:Hid (∀ (X:List Sd) (L:List Ce),Qck L->(L.map Ce.key).Perm ((QaN S).map Ce.key)->ShrL (Qbe (S.map Sd.nm) mm) L X->MbR S p mm 6 (!inK (S.map Sd.nm) mm) (decide (S.length=1)) (Qbe (S.map Sd.nm) mm) p (X.map Sd.key) 0):=fun X L h1 h2 h3=>by unfold MbR;rw [aD.out,if_neg (by decide),if_neg (by rw [aK.out];simp),if_neg (by simp;omega)];exact ⟨rfl,rfl,L,h1,h2,h3.keys⟩
     clear hk aN ay hK ah aU;obtain ⟨i0,hi,a3,bb,bi⟩:=info_parts QkR;have aQ:Hid (OwnT (w3.alloc (.cells #[] 9)) w3.heap.size (.slice (some ⟨w3.heap.size,0,none⟩) 0 0) (Qbe ((S.map Sd.nm).take 0) mm)/\Below w3.heap.size w3 (w3.alloc (.cells #[] 9))):=Qaa ⟨by rw [List.take_zero];exact World.ownsRow_made _ #[] 0 (Nat.le_refl _) (Nat.zero_le _) rfl,(Below.refl _ _).alloc (Nat.le_refl _) _⟩;go_wp2
     go_loopw [6,7] (fun v i wr=>∃ (k:Nat) (a0:Option Addr) (n0 c0:Nat),k<=N/\i=.int .i64 k/\v=.slice a0 n0 c0/\Hid (OwnT wr w3.heap.size (.slice a0 n0 c0) (Qbe ((S.map Sd.nm).take k) mm)/\Below w3.heap.size w3 wr)) (fun v i wr=>N - (Go.RowKit.intOf i).toNat)
     case atStart=>exact ⟨0,_,_,_,ZZj _,rfl,rfl,aQ⟩
     case round=>
      clear aQ;obtain ⟨k,a0,n0,c0,hk,rfl,rfl,HV⟩:=hrel;by_cases bf:k<N
      ·have aI:(k:Int)<(N:Int):=by omega
       obtain ⟨x,hx⟩:∃ x,(S.map Sd.nm)[k]?=some x:=⟨(S.map Sd.nm)[k]'(by rw [af];exact bf),List.getElem?_eq_getElem _⟩;obtain ⟨b,bk,e,hc⟩:=a2.out (by rw [af];omega);subst e;have x0:=Qab HV.out.2 (hc k x hx)
       have hq:Qbe ((S.map Sd.nm).take (k+1)) mm=Qbe ((S.map Sd.nm).take k) mm ++ Qbe [x] mm:=by
        rw [List.take_add_one,hx];unfold Qbe;rw [List.filter_append];rfl
       have bg:(Qbe ((S.map Sd.nm).take k) mm).length<=12:=Nat.le_trans (List.length_filter_le _ _) (by rw [List.length_take,af];omega)
       cases qx:(x.toList == mm.toList) with
       | true=>
        have qn:(x.toList != mm.toList)=false:=by simp [bne,qx]
        have e1:Qbe [x] mm=[]:=by unfold Qbe;simp [qx]
        have HF:Hid (OwnT wr w3.heap.size (.slice a0 n0 c0) (Qbe ((S.map Sd.nm).take (k+1)) mm)/\Below w3.heap.size w3 wr):=by rw [hq,e1,List.append_nil];exact HV
        clear hc hx hq e1;go_wp2;go_roundw
        case rel=>exact ⟨k+1,_,_,_,by omega,by first | rfl | go_num,rfl,HF⟩
        case measure=>simp [zI];omega
       | false=>
        have qn:(x.toList != mm.toList)=true:=by simp [bne,qx]
        have e1:Qbe [x] mm=[x]:=by unfold Qbe;simp [qx]
        rw [e1] at hq;obtain ⟨T,hT⟩:∃ T,Qbe ((S.map Sd.nm).take k) mm=T:=⟨_,rfl⟩;rw [hT] at HV hq bg;have bh:=Qaa hq;have z3:=HV.out.2.size;have OW:Hid (wr.ownsRow w3.heap.size 9 1 (.slice a0 n0 c0) T.length (T.map Value.string)):=Qaa HV.out.1;clear hc hx hq e1 hT;go_wp2_with (at_builtin;refine wpList_append_own _ rfl _ _ 30 rfl w3.heap.size 9 i0 (.string ByteArray.empty) 1 16 underlying30 hi a3 bb bi rfl (by decide) _ _ _ rfl (World.ownsRow.alloc OW _) ⟨wr.heap.size,0,none⟩ 1 1 [.string x] rfl rfl ?c1 ?c2 ?c3 ?c4 ?c5 ?_)
        case c1=>exact QoN
        case c2=>first | rfl | (intro y hy;simp at hy;subst hy;rfl)
        case c3=>unfold maxLen;omega
        case c4=>omega
        case c5=>first | omega | (simp;omega)
        intro v' w5 aq ag _
        have aF:Hid (OwnT w5 w3.heap.size v' (Qbe ((S.map Sd.nm).take (k+1)) mm)/\Below w3.heap.size w3 w5):=by
         rw [bh.out];refine Qaa ⟨?_,(HV.out.2.alloc z3 _).grown ag (by simp;omega) (fun j hj=>(World.ownsRow.lt OW j hj).1)⟩
         show World.ownsRow _ _ _ _ _ _ _
         rw [List.length_append,List.map_append];exact aq
        clear aq ag OW HV;obtain ⟨a1,c1,rfl⟩:=Qfo aF.out.1;have HF:=aF;clear aF;go_wp2;go_roundw
        case rel=>exact ⟨k+1,_,_,_,by omega,by first | rfl | go_num,rfl,HF⟩
        case measure=>simp [zI];omega
      ·have aI:¬ (k:Int)<(N:Int):=by omega
       have aB:=HV.out.1;rw [List.take_of_length_le (by rw [af];omega)] at aB;obtain rfl:n0=(Qbe (S.map Sd.nm) mm).length:=(Qef aB).2.2.2.2.symm;have aw:=Qaa HV.out.2;have a9:=Qaa (QkI aB);clear aB HV;obtain ⟨x0,x1,x2,x3,x4⟩:=QdF (QaA aH aw);go_wp2_with fail;clear x0 x1 x2 x3 x4;refine (Qhe p (HI.out.past (Qac ax aw)) HQ (Qsu HP) bc a9).mono ?_;rintro e w6 ⟨v6,X,L,rfl,aY,aO,aM,az,aG,aS⟩;obtain ⟨a6,c6,rfl,_⟩:=az.form;have aW:Hid (Below w3.heap.size w3 w6):=Qac aw aS;have HF:=Qaa (ab.out X L aY aO aM);have z5:w.heap.size+1+1<=wr.heap.size:=Nat.le_trans aL aw.out.size;have a7:Hid (LvO w6 (w.heap.size+1+1) X):=Qaa (aG.le z5);have aJ:Hid (∀ j,(Value.slice a6 X.length c6).ownBlock=some j->w.heap.size+1+1<=j):=fun j q=>Nat.le_trans z5 (World.ownsRow.lt az j q).1;have a5:Hid (CpP w w6 X (.slice a6 X.length c6) X):=Qaa ⟨az.le (by omega),aG.le (by omega),rfl,Qac ax aW⟩;have R1:=QaA ak aW;obtain ⟨y0,y1,y2,y3,y4,y5,y6⟩:=Qd4 R1;obtain ⟨f0,f1,f2,f3,f4,f5,f6⟩:=fA7 R1;clear R1 aY aO aM az aG aS;go_wp2;refine bodyPost_ret (v:=.agg (QaI (.slice a6 X.length c6) p (.slice none 0 0) 0)) (by simp [results,results26,go_sem,y0,y1,y2,y3,y4,y5,y6]) rfl ?_;have hC:=CpP.sets7 (v0:=.slice a6 X.length c6) (v1:=.int .i64 p.a) (v2:=.int .i64 p.b) (v3:=.int .i64 p.c) (v4:=.int .i64 p.d) (v5:=.slice none 0 0) (v6:=.int .i64 0) aJ a7 a5;have hF:=HF.out;rw [aK.out,aP.out] at hF;exact ⟨a6,_,c6,p,X,0,rfl,by first | exact hF | exact HF.out | (have h:=HF.out;rw [aP.out] at h;exact h) | (have h:=HF.out;rw [aK.out] at h;exact h),hC.r,hC.o,hC.b⟩
theorem mfC_0 (h:¬ mfC S p mm≠0):QaZ S p=true/\QaK mm=true:=by
 have h0:mfC S p mm=0:=Classical.not_not.1 h;unfold mfC at h0
 split at h0
 ·exact absurd h0 (by decide)
 ·split at h0
  ·exact absurd h0 (by decide)
  ·rename_i c
   refine ⟨?_,?_⟩
   ·cases q:QaZ S p
    ·exact absurd (.inl q) c
    ·rfl
   ·cases q:QaK mm
    ·exact absurd (.inr q) c
    ·rfl
theorem joinK (hp:QaZ S p=true) (hn:QaK mm=true) (h7:inK (S.map Sd.nm) mm=false) (h8:decide (12<=S.length)=false):Qaj (QcE (S.map Sd.nm) mm)=true:=
 Qjp (Qb2 (QaE hp).1) (fun h=>by rw [QfO h] at h7;cases h7) (by have:=of_decide_eq_false h8;rw [List.length_map];omega) hn
theorem leaveK (hp:QaZ S p=true) (hn:QaK mm=true) (h7:(!inK (S.map Sd.nm) mm)=false) (h8:decide (S.length=1)=false):Qaj (Qbe (S.map Sd.nm) mm)=true:=by
 have hk:inK (S.map Sd.nm) mm=true:=by simpa using h7
 have HM:=Qb2 (QaE hp).1;have ad:=Qbp HM;have ae:=of_decide_eq_false h8;have ac:=inK_iff.1 hk;rw [List.length_map] at ad;obtain ⟨A,R,ab⟩:=List.append_of_mem ac
 have hK:Qbe (S.map Sd.nm) mm=A ++ R:=by
  have h:=QbK (QbQ HM);rw [ab] at h ⊢;exact QkJ h
 have aa:(A ++ R).Sublist (S.map Sd.nm):=by rw [ab];exact List.Sublist.append_left (List.sublist_cons_self _ _) _
 have af:(A ++ R).length+1=S.length:=by have h:=congrArg List.length ab;rw [List.length_map] at h;rw [h];simp;omega
 rw [hK];exact QkD (by omega) (by omega) (fun x hx=>Qcc HM (aa.subset hx)) ((QbQ HM).sublist aa)
def PoA (w:World) (R:Pi->List (ByteArray×List (Int×ByteArray×Ag))->List (Int×ByteArray×Ag)->Int->Prop) (e:Ending) (w':World):Prop:=
 ∃ a n c q M d m f C cd,e=.returned (.agg (QaI (.slice a n c) q (.slice d m f) cd))/\R q (M.map Sd.key) (C.map Ce.key) cd/\PoB w' w.heap.size w'.heap.size (.slice a n c) M (.slice d m f) C/\Below w.heap.size w w'
def JnR (S:List Sd) (p:Pi) (mm:ByteArray) (q:Pi) (KM:List (ByteArray×List (Int×ByteArray×Ag))) (KC:List (Int×ByteArray×Ag)) (cd:Int):Prop:=MbR S p mm 7 (inK (S.map Sd.nm) mm) (decide (12<=S.length)) (QcE (S.map Sd.nm) mm) q KM cd/\KC=[]
def LeR (S:List Sd) (p:Pi) (mm:ByteArray) (q:Pi) (KM:List (ByteArray×List (Int×ByteArray×Ag))) (KC:List (Int×ByteArray×Ag)) (cd:Int):Prop:=MbR S p mm 6 (!inK (S.map Sd.nm) mm) (decide (S.length=1)) (Qbe (S.map Sd.nm) mm) q KM cd/\KC=[]
section
variable {w w':World} {S T M:List Sd} {C:List Ce} {p q q':Pi} {mm:ByteArray} {en:Ending} {KM KM':List (ByteArray×List (Int×ByteArray×Ag))} {KC KC':List (Int×ByteArray×Ag)} {cd cd':Int}
end
end Go.Proofs.YtdbaabbmcfnjbaaGreatDoor
